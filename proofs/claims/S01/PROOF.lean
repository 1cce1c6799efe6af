import PyProof.Rows.All
import Wide.All
import OpenK.AllK
import Wide.FinOn
import Open.SpecLaws
import KE.OsGo
import HandS.ForSpec
import HandS.Evl
import HandS.SortKw
import HandS.Iter
import HandS.TryMany
import HandS.Text
import KE.LtData
import KE.SortKeyHeap
import HandS.Nested
import PyProof.Rows.SeqMore
import KE.KNest
import PyWqaibk
import PySem.Challenge.RW_soundlex_s01_answers
set_option Elab.async false
set_option maxRecDepth 100000
set_option maxHeartbeats 2000000
/-! Mirror and mathematics: characters and bytes. -/
namespace So
open Sy
/-! ### UTF-8: the program's own reading of bytes (as Nats) -/
def lenTold (b : Nat) : Nat := if b < 128 then 1 else if b < 192 then 0 else if b < 224 then 2 else if b < 240 then 3 else if b < 248 then 4 else 0
def leastOf (n : Nat) : Nat := if n = 2 then 128 else if n = 3 then 2048 else if n = 4 then 65536 else 0
def isCont (b : Nat) : Bool := decide (128 ≤ b) && decide (b < 192)
/-- the continuing bytes, from a value so far -/
def conts : Nat → List Nat → Option Nat
  | c, [] => some c
  | c, b :: r => if isCont b = true then conts (c * 64 + b % 64) r else none
def leadVal (n b : Nat) : Nat := if n = 2 then b % 32 else if n = 3 then b % 16 else b % 8
/-- the character at the front of bytes -/
def charAt (d : List Nat) : Option Nat := match d with
  | [] => none
  | b :: r =>
    let n := lenTold b
    if n = 0 ∨ d.length < n then none else if n = 1 then some b else match conts (leadVal n b) (r.take (n - 1)) with
      | none => none
      | some c => if c < leastOf n ∨ isChar c = false then none else some c
def bytesN (b : Bytes) : List Nat := b.map UInt8.toNat
/-- a character's bytes as Nats -/
def utf8N (c : Nat) : List Nat := if c < 0x80 then [c] else if c < 0x800 then [0xC0 + c / 64, 0x80 + c % 64] else if c < 0x10000 then [0xE0 + c / 4096, 0x80 + c / 64 % 64, 0x80 + c % 64]
    else [0xF0 + c / 262144, 0x80 + c / 4096 % 64, 0x80 + c / 64 % 64, 0x80 + c % 64]
theorem isChar_lt {c : Nat} (h : isChar c = true) : c < 0x110000 := by
  unfold isChar at h
  simp only [Bool.and_eq_true, decide_eq_true_eq] at h
  exact h.1
theorem utf8N_lt {c : Nat} (h : c < 0x110000) : ∀ x ∈ utf8N c, x < 256 := by
  intro x hx
  unfold utf8N at hx
  split at hx
  · simp at hx; omega
  · split at hx
    · simp at hx; omega
    · split at hx
      · simp at hx; omega
      · simp at hx; omega
theorem map_ofNat_toNat : ∀ {l : List Nat}, (∀ x ∈ l, x < 256) → (l.map UInt8.ofNat).map UInt8.toNat = l
  | [], _ => rfl
  | a :: l, h => by
    rw [List.map_cons, List.map_cons, map_ofNat_toNat fun x hx => h x (List.mem_cons_of_mem _ hx)]
    congr 1
    have : a < 256 := h a List.mem_cons_self
    rw [UInt8.toNat_ofNat']
    exact Nat.mod_eq_of_lt this
theorem bytesN_utf8 {c : Nat} (h : c < 0x110000) : bytesN (utf8 c) = utf8N c := by
  show (List.map UInt8.ofNat (utf8N c)).map UInt8.toNat = utf8N c
  exact map_ofNat_toNat (utf8N_lt h)
theorem bytesN_inj {a b : Bytes} (h : bytesN a = bytesN b) : a = b := by
  induction a generalizing b with
  | nil =>
    cases b with
    | nil => rfl
    | cons y b => cases h
  | cons x a ih =>
    cases b with
    | nil => cases h
    | cons y b =>
      have h1 : x.toNat = y.toNat := (List.cons.inj h).1
      have h2 : bytesN a = bytesN b := (List.cons.inj h).2
      rw [ih h2, UInt8.toNat_inj.mp h1]
/-- encoding a character and reading it again -/
theorem charAt_utf8 {c : Nat} (h : isChar c = true) (r : List Nat) : charAt (utf8N c ++ r) = some c := by
  have hc := isChar_lt h
  unfold utf8N
  by_cases h1 : c < 0x80
  · rw [if_pos h1]
    have e : lenTold c = 1 := if_pos h1
    simp [charAt, e]
  · rw [if_neg h1]
    by_cases h2 : c < 0x800
    · rw [if_pos h2]
      have e : lenTold (0xC0 + c / 64) = 2 := by
        unfold lenTold
        rw [if_neg (by omega), if_neg (by omega), if_pos (by omega)]
      have e2 : isCont (0x80 + c % 64) = true := by simp [isCont]; omega
      have e3 : leadVal 2 (0xC0 + c / 64) * 64 + (0x80 + c % 64) % 64 = c := by
        unfold leadVal; rw [if_pos rfl]; omega
      simp only [charAt, e, List.cons_append, List.nil_append, List.length_cons]
      rw [if_neg (by omega), if_neg (by omega)]
      simp only [List.take, conts, e2, if_true, e3, Nat.add_one_sub_one]
      rw [if_neg]
      rw [h]
      simp [leastOf]
      omega
    · rw [if_neg h2]
      by_cases h3 : c < 0x10000
      · rw [if_pos h3]
        have e : lenTold (0xE0 + c / 4096) = 3 := by
          unfold lenTold
          rw [if_neg (by omega), if_neg (by omega), if_neg (by omega), if_pos (by omega)]
        have e2 : isCont (0x80 + c % 64) = true := by simp [isCont]; omega
        have e2' : isCont (0x80 + c / 64 % 64) = true := by simp [isCont]; omega
        have e3 : (leadVal 3 (0xE0 + c / 4096) * 64 + (0x80 + c / 64 % 64) % 64) * 64 + (0x80 + c % 64) % 64 = c := by
          unfold leadVal; rw [if_neg (by decide), if_pos rfl]; omega
        simp only [charAt, e, List.cons_append, List.nil_append, List.length_cons]
        rw [if_neg (by omega), if_neg (by omega)]
        simp only [List.take, conts, e2, e2', if_true, e3, Nat.add_one_sub_one]
        rw [if_neg]
        rw [h]
        simp [leastOf]
        omega
      · rw [if_neg h3]
        have e : lenTold (0xF0 + c / 262144) = 4 := by
          unfold lenTold
          rw [if_neg (by omega), if_neg (by omega), if_neg (by omega), if_neg (by omega), if_pos (by omega)]
        have e2 : isCont (0x80 + c % 64) = true := by simp [isCont]; omega
        have e2' : isCont (0x80 + c / 64 % 64) = true := by simp [isCont]; omega
        have e2'' : isCont (0x80 + c / 4096 % 64) = true := by simp [isCont]; omega
        have e3 : ((leadVal 4 (0xF0 + c / 262144) * 64 + (0x80 + c / 4096 % 64) % 64) * 64 + (0x80 + c / 64 % 64) % 64) * 64 + (0x80 + c % 64) % 64 = c := by
          unfold leadVal; rw [if_neg (by decide), if_neg (by decide)]; omega
        simp only [charAt, e, List.cons_append, List.nil_append, List.length_cons]
        rw [if_neg (by omega), if_neg (by omega)]
        simp only [List.take, conts, e2, e2', e2'', if_true, e3, Nat.add_one_sub_one]
        rw [if_neg]
        rw [h]
        simp [leastOf]
        omega
theorem utf8N_len {c : Nat} (hc : c < 0x110000) : ∃ b r, utf8N c = b :: r ∧ lenTold b = (utf8N c).length := by
  unfold utf8N
  by_cases h1 : c < 0x80
  · rw [if_pos h1]
    exact ⟨_, _, rfl, if_pos h1⟩
  · rw [if_neg h1]
    by_cases h2 : c < 0x800
    · rw [if_pos h2]
      refine ⟨_, _, rfl, ?_⟩
      unfold lenTold
      rw [if_neg (by omega), if_neg (by omega), if_pos (by omega)]; rfl
    · rw [if_neg h2]
      by_cases h3 : c < 0x10000
      · rw [if_pos h3]
        refine ⟨_, _, rfl, ?_⟩
        unfold lenTold
        rw [if_neg (by omega), if_neg (by omega), if_neg (by omega), if_pos (by omega)]; rfl
      · rw [if_neg h3]
        refine ⟨_, _, rfl, ?_⟩
        unfold lenTold
        rw [if_neg (by omega), if_neg (by omega), if_neg (by omega), if_neg (by omega), if_pos (by omega)]; rfl
theorem isCont_iff {b : Nat} : isCont b = true ↔ 128 ≤ b ∧ b < 192 := by simp [isCont]
/-- what is read is what encodes so -/
theorem charAt_some {d : List Nat} {c : Nat} (hb : ∀ x ∈ d, x < 256) (h : charAt d = some c) : isChar c = true ∧ ∃ r, d = utf8N c ++ r := by
  cases d with
  | nil => cases h
  | cons b r =>
    have hb0 : b < 256 := hb b List.mem_cons_self
    simp only [charAt] at h
    by_cases h0 : lenTold b = 0 ∨ (b :: r).length < lenTold b
    · rw [if_pos h0] at h; cases h
    rw [if_neg h0] at h
    rw [not_or] at h0
    obtain ⟨n0, hl⟩ := h0
    have hl' : lenTold b ≤ (b :: r).length := Nat.le_of_not_lt hl
    rw [List.length_cons] at hl'
    have cases5 : (b < 128 ∧ lenTold b = 1) ∨ (192 ≤ b ∧ b < 224 ∧ lenTold b = 2) ∨ (224 ≤ b ∧ b < 240 ∧ lenTold b = 3) ∨ (240 ≤ b ∧ b < 248 ∧ lenTold b = 4) := by
      unfold lenTold at n0 ⊢
      by_cases q1 : b < 128
      · left; exact ⟨q1, if_pos q1⟩
      rw [if_neg q1] at n0 ⊢
      by_cases q2 : b < 192
      · rw [if_pos q2] at n0; exact absurd rfl n0
      rw [if_neg q2] at n0 ⊢
      by_cases q3 : b < 224
      · right; left; exact ⟨by omega, q3, if_pos q3⟩
      rw [if_neg q3] at n0 ⊢
      by_cases q4 : b < 240
      · right; right; left; exact ⟨by omega, q4, if_pos q4⟩
      rw [if_neg q4] at n0 ⊢
      by_cases q5 : b < 248
      · right; right; right; exact ⟨by omega, q5, if_pos q5⟩
      rw [if_neg q5] at n0
      exact absurd rfl n0
    rcases cases5 with ⟨q, e⟩ | ⟨q, q', e⟩ | ⟨q, q', e⟩ | ⟨q, q', e⟩
    · rw [e, if_pos rfl] at h
      cases h
      refine ⟨?_, r, ?_⟩
      · simp [isChar]; omega
      · unfold utf8N; rw [if_pos q]; rfl
    · rw [e] at h hl'
      rw [if_neg (by decide)] at h
      match r, hl', hb, h with
      | [], hl', _, _ => simp at hl'
      | b1 :: r, hl', hb, h =>
        simp only [List.take, conts, leadVal, Nat.add_one_sub_one, if_true] at h
        by_cases k1 : isCont b1 = true
        · rw [if_pos k1] at h
          simp only at h
          split at h
          · cases h
          · rename_i g
            rw [not_or] at g
            cases h
            rw [isCont_iff] at k1
            refine ⟨by simpa using g.2, r, ?_⟩
            have := g.1
            simp [leastOf] at this
            unfold utf8N
            rw [if_neg (by omega), if_pos (by omega)]
            have e1 : 192 + (b % 32 * 64 + b1 % 64) / 64 = b := by omega
            have e2 : 128 + (b % 32 * 64 + b1 % 64) % 64 = b1 := by omega
            rw [e1, e2]; rfl
        · rw [if_neg k1] at h; cases h
    · rw [e] at h hl'
      rw [if_neg (by decide)] at h
      match r, hl', hb, h with
      | [], hl', _, _ => simp at hl'
      | [_], hl', _, _ => simp at hl'
      | b1 :: b2 :: r, hl', hb, h =>
        have lv : leadVal 3 b = b % 16 := by unfold leadVal; rw [if_neg (by decide), if_pos rfl]
        simp only [List.take, conts, lv, Nat.add_one_sub_one] at h
        by_cases k1 : isCont b1 = true
        · rw [if_pos k1] at h
          by_cases k2 : isCont b2 = true
          · rw [if_pos k2] at h
            simp only at h
            split at h
            · cases h
            · rename_i g
              rw [not_or] at g
              cases h
              rw [isCont_iff] at k1 k2
              refine ⟨by simpa using g.2, r, ?_⟩
              have := g.1
              simp [leastOf] at this
              unfold utf8N
              rw [if_neg (by omega), if_neg (by omega), if_pos (by omega)]
              have e1 : 224 + ((b % 16 * 64 + b1 % 64) * 64 + b2 % 64) / 4096 = b := by omega
              have e2 : 128 + ((b % 16 * 64 + b1 % 64) * 64 + b2 % 64) / 64 % 64 = b1 := by omega
              have e3 : 128 + ((b % 16 * 64 + b1 % 64) * 64 + b2 % 64) % 64 = b2 := by omega
              rw [e1, e2, e3]; rfl
          · rw [if_neg k2] at h; cases h
        · rw [if_neg k1] at h; cases h
    · rw [e] at h hl'
      rw [if_neg (by decide)] at h
      match r, hl', hb, h with
      | [], hl', _, _ => simp at hl'
      | [_], hl', _, _ => simp at hl'
      | [_, _], hl', _, _ => simp at hl'
      | b1 :: b2 :: b3 :: r, hl', hb, h =>
        have lv : leadVal 4 b = b % 8 := by unfold leadVal; rw [if_neg (by decide), if_neg (by decide)]
        simp only [List.take, conts, lv, Nat.add_one_sub_one] at h
        by_cases k1 : isCont b1 = true
        · rw [if_pos k1] at h
          by_cases k2 : isCont b2 = true
          · rw [if_pos k2] at h
            by_cases k3 : isCont b3 = true
            · rw [if_pos k3] at h
              simp only at h
              split at h
              · cases h
              · rename_i g
                rw [not_or] at g
                cases h
                rw [isCont_iff] at k1 k2 k3
                have hic : isChar (((b % 8 * 64 + b1 % 64) * 64 + b2 % 64) * 64 + b3 % 64) = true := by simpa using g.2
                refine ⟨hic, r, ?_⟩
                have := g.1
                simp [leastOf] at this
                have := isChar_lt hic
                unfold utf8N
                rw [if_neg (by omega), if_neg (by omega), if_neg (by omega)]
                have e1 : 240 + (((b % 8 * 64 + b1 % 64) * 64 + b2 % 64) * 64 + b3 % 64) / 262144 = b := by omega
                have e2 : 128 + (((b % 8 * 64 + b1 % 64) * 64 + b2 % 64) * 64 + b3 % 64) / 4096 % 64 = b1 := by omega
                have e3 : 128 + (((b % 8 * 64 + b1 % 64) * 64 + b2 % 64) * 64 + b3 % 64) / 64 % 64 = b2 := by omega
                have e4 : 128 + (((b % 8 * 64 + b1 % 64) * 64 + b2 % 64) * 64 + b3 % 64) % 64 = b3 := by omega
                rw [e1, e2, e3, e4]; rfl
            · rw [if_neg k3] at h; cases h
          · rw [if_neg k2] at h; cases h
        · rw [if_neg k1] at h; cases h
/-! ### the specification's reading is the same -/
theorem bytesN_lt (b : Bytes) : ∀ x ∈ bytesN b, x < 256 := by
  intro x hx
  obtain ⟨y, _, rfl⟩ := List.mem_map.mp hx
  exact y.toNat_lt
theorem bytesN_take (b : Bytes) (n : Nat) : bytesN (b.take n) = (bytesN b).take n := List.map_take
theorem bytesN_drop (b : Bytes) (n : Nat) : bytesN (b.drop n) = (bytesN b).drop n := List.map_drop
theorem bytesN_app (a b : Bytes) : bytesN (a ++ b) = bytesN a ++ bytesN b := List.map_append
theorem bytesN_length (b : Bytes) : (bytesN b).length = b.length := List.length_map ..
/-- what charOf's test says of a length -/
def okLen (b : Bytes) (n : Nat) : Bool := decide (n ≤ b.length) && (isChar (valueOf n b) && utf8 (valueOf n b) == b.take n)
theorem charOf_eq (b : Bytes) : charOf b = ([1, 2, 3, 4].find? (okLen b)).map fun (n : Nat) => (valueOf n b, b.drop n) := rfl
theorem utf8_eq_of {b : Bytes} {n : Nat} (h : okLen b n = true) : isChar (valueOf n b) = true ∧ n ≤ b.length ∧ (bytesN b).take n = utf8N (valueOf n b) := by
  unfold okLen at h
  rw [Bool.and_eq_true, Bool.and_eq_true] at h
  obtain ⟨h1, h2, h3⟩ := h
  have h3' : utf8 (valueOf n b) = b.take n := by simpa using h3
  refine ⟨h2, by simpa using h1, ?_⟩
  rw [← bytesN_take, ← h3', bytesN_utf8 (isChar_lt h2)]
/-- the front's character when a length is right -/
theorem charAt_of_ok {b : Bytes} {n : Nat} (h : okLen b n = true) : charAt (bytesN b) = some (valueOf n b) ∧ (utf8N (valueOf n b)).length = n := by
  obtain ⟨h1, h2, h3⟩ := utf8_eq_of h
  constructor
  · have e : bytesN b = utf8N (valueOf n b) ++ (bytesN b).drop n := by rw [← h3, List.take_append_drop]
    rw [e]
    exact charAt_utf8 h1 _
  · rw [← h3, List.length_take, bytesN_length]
    omega
theorem utf8N_length {c : Nat} (_ : c < 0x110000) : (utf8N c).length = 1 ∨ (utf8N c).length = 2 ∨ (utf8N c).length = 3 ∨ (utf8N c).length = 4 := by
  unfold utf8N
  split
  · simp
  · split
    · simp
    · split
      · simp
      · simp
/-- the value of the bytes that a character has -/
theorem valueOf_utf8 {b : Bytes} {c : Nat} {r : List Nat} (_ : c < 0x110000) (e : bytesN b = utf8N c ++ r) : valueOf (utf8N c).length b = c := by
  have get : ∀ i, (b.getD i 0).toNat = (bytesN b).getD i 0 := by
    intro i
    unfold bytesN
    rw [List.getD_eq_getElem?_getD, List.getD_eq_getElem?_getD, List.getElem?_map]
    cases b[i]? with
    | none => rfl
    | some x => rfl
  unfold valueOf
  simp only [get, e]
  unfold utf8N
  by_cases h1 : c < 0x80
  · rw [if_pos h1]; simp
  · rw [if_neg h1]
    by_cases h2 : c < 0x800
    · rw [if_pos h2]; simp; omega
    · rw [if_neg h2]
      by_cases h3 : c < 0x10000
      · rw [if_pos h3]; simp; omega
      · rw [if_neg h3]; simp; omega
theorem find_len {b : Bytes} {m : Nat} (hm : m = 1 ∨ m = 2 ∨ m = 3 ∨ m = 4) (h : okLen b m = true) (hu : ∀ n, okLen b n = true → n = m) : [1, 2, 3, 4].find? (okLen b) = some m := by
  have no : ∀ n, n ≠ m → okLen b n = false := fun n hn => by
    cases e : okLen b n with
    | false => rfl
    | true => exact absurd (hu n e) hn
  rcases hm with rfl | rfl | rfl | rfl
  · simp [List.find?, h]
  · simp [List.find?, h, no 1 (by decide)]
  · simp [List.find?, h, no 1 (by decide), no 2 (by decide)]
  · simp [List.find?, h, no 1 (by decide), no 2 (by decide), no 3 (by decide)]
theorem charOf_is (b : Bytes) : charOf b = (charAt (bytesN b)).map fun c => (c, b.drop (utf8N c).length) := by
  rw [charOf_eq]
  cases e : charAt (bytesN b) with
  | none =>
    have no : ∀ n, okLen b n = false := fun n => by
      cases q : okLen b n with
      | false => rfl
      | true =>
        rw [(charAt_of_ok q).1] at e
        cases e
    simp [List.find?, no]
  | some c =>
    obtain ⟨h1, r, h2⟩ := charAt_some (bytesN_lt b) e
    have hv := valueOf_utf8 (isChar_lt h1) h2
    have ok : okLen b (utf8N c).length = true := by
      unfold okLen
      rw [hv, h1, Bool.and_eq_true, Bool.and_eq_true]
      refine ⟨?_, rfl, ?_⟩
      · rw [← bytesN_length b, h2, List.length_append]
        simp
      · rw [beq_iff_eq]
        refine bytesN_inj ?_
        rw [bytesN_utf8 (isChar_lt h1), bytesN_take, h2, List.take_left]
    rw [find_len (utf8N_length (isChar_lt h1)) ok fun n hn => ?_]
    · simp [hv]
    · obtain ⟨q1, q2⟩ := charAt_of_ok hn
      rw [e] at q1
      rw [Option.some.inj q1]
      exact q2.symm
/-- a text from bytes, by the program: at each place the character there -/
def decodedFrom : Nat → List Nat → Option (List Nat)
  | _, [] => some []
  | 0, _ :: _ => none
  | n + 1, d => match charAt d with
    | some c => (decodedFrom n (d.drop (utf8N c).length)).map fun t => c :: t
    | none => none
def decoded (d : List Nat) : Option (List Nat) := decodedFrom d.length d
theorem charsFrom_is : ∀ (n : Nat) (b : Bytes), charsFrom n b = decodedFrom n (bytesN b)
  | n, [] => by
    cases n <;> rfl
  | 0, _ :: _ => rfl
  | n + 1, x :: b => by
    show (match charOf (x :: b) with
      | some (c, r) => (charsFrom n r).map fun (t : Text) => c :: t
      | none => none) = (match charAt (bytesN (x :: b)) with
      | some c => (decodedFrom n ((bytesN (x :: b)).drop (utf8N c).length)).map fun t => c :: t
      | none => none)
    rw [charOf_is]
    cases charAt (bytesN (x :: b)) with
    | none => rfl
    | some c =>
      show (charsFrom n ((x :: b).drop (utf8N c).length)).map _ = _
      rw [charsFrom_is n, bytesN_drop]
theorem chars_is (b : Bytes) : chars b = decoded (bytesN b) := by
  unfold chars decoded
  rw [charsFrom_is, bytesN_length]
/-! ### decoding, step by step -/
theorem utf8N_pos (c : Nat) : 1 ≤ (utf8N c).length := by
  unfold utf8N
  split
  · simp
  · split
    · simp
    · split
      · simp
      · simp
theorem decodedFrom_fuel : ∀ (n m : Nat) (d : List Nat), d.length ≤ n → d.length ≤ m → decodedFrom n d = decodedFrom m d
  | n, m, [], _, _ => by
    cases n <;> cases m <;> rfl
  | 0, _, _ :: _, h, _ => absurd h (by simp)
  | _ + 1, 0, _ :: _, _, h => absurd h (by simp)
  | n + 1, m + 1, x :: d, h1, h2 => by
    show (match charAt (x :: d) with
      | some c => (decodedFrom n ((x :: d).drop (utf8N c).length)).map fun t => c :: t
      | none => none) = (match charAt (x :: d) with
      | some c => (decodedFrom m ((x :: d).drop (utf8N c).length)).map fun t => c :: t
      | none => none)
    cases charAt (x :: d) with
    | none => rfl
    | some c =>
      have hp := utf8N_pos c
      rw [List.length_cons] at h1 h2
      have e : decodedFrom n ((x :: d).drop (utf8N c).length) = decodedFrom m ((x :: d).drop (utf8N c).length) := by
        refine decodedFrom_fuel n m _ ?_ ?_
        · rw [List.length_drop, List.length_cons]; omega
        · rw [List.length_drop, List.length_cons]; omega
      simp only [e]
theorem decoded_nil : decoded [] = some [] := rfl
theorem decoded_step {d : List Nat} (h : d ≠ []) : decoded d = (match charAt d with
    | some c => (decoded (d.drop (utf8N c).length)).map fun t => c :: t
    | none => none) := by
  cases d with
  | nil => exact absurd rfl h
  | cons x d =>
    show (match charAt (x :: d) with
      | some c => (decodedFrom d.length ((x :: d).drop (utf8N c).length)).map fun t => c :: t
      | none => none) = _
    cases charAt (x :: d) with
    | none => rfl
    | some c =>
      have hp := utf8N_pos c
      have e : decodedFrom d.length ((x :: d).drop (utf8N c).length) = decoded ((x :: d).drop (utf8N c).length) := by
        unfold decoded
        refine decodedFrom_fuel _ _ _ ?_ (Nat.le_refl _)
        rw [List.length_drop, List.length_cons]; omega
      simp only [e]
/-- characters' bytes -/
def encoded (t : List Nat) : List Nat := t.flatMap utf8N
theorem encoded_cons (c : Nat) (t : List Nat) : encoded (c :: t) = utf8N c ++ encoded t := rfl
theorem encoded_app (a b : List Nat) : encoded (a ++ b) = encoded a ++ encoded b := List.flatMap_append
theorem decoded_encoded : ∀ (t : List Nat), isText t = true → decoded (encoded t) = some t
  | [], _ => rfl
  | c :: t, h => by
    have h' : isChar c = true ∧ isText t = true := by
      unfold isText at h ⊢
      rw [List.all_cons, Bool.and_eq_true] at h
      exact h
    have hne : encoded (c :: t) ≠ [] := by
      rw [encoded_cons]
      intro e
      have := utf8N_pos c
      rw [(List.append_eq_nil_iff.mp e).1] at this
      exact absurd this (by decide)
    rw [decoded_step hne, encoded_cons, charAt_utf8 h'.1]
    simp only [List.drop_left]
    rw [decoded_encoded t h'.2]
    rfl
theorem decoded_some : ∀ (n : Nat) (d t : List Nat), d.length ≤ n → (∀ x ∈ d, x < 256) → decoded d = some t → isText t = true ∧ d = encoded t
  | _, [], t, _, _, h => by
    rw [decoded_nil] at h
    cases h
    exact ⟨rfl, rfl⟩
  | 0, _ :: _, _, hl, _, _ => absurd hl (by simp)
  | n + 1, x :: d, t, hl, hb, h => by
    rw [decoded_step (by simp)] at h
    cases e : charAt (x :: d) with
    | none => rw [e] at h; cases h
    | some c =>
      rw [e] at h
      simp only [Option.map_eq_some_iff] at h
      obtain ⟨t', h1, h2⟩ := h
      obtain ⟨k1, r, k2⟩ := charAt_some hb e
      have hp := utf8N_pos c
      have hd : (x :: d).drop (utf8N c).length = r := by rw [k2, List.drop_left]
      rw [hd] at h1
      have hr : ∀ x ∈ r, x < 256 := fun y hy => hb y (by rw [k2]; exact List.mem_append_right _ hy)
      have hl2 : r.length ≤ n := by
        have := congrArg List.length k2
        rw [List.length_cons, List.length_append] at this
        rw [List.length_cons] at hl
        omega
      obtain ⟨j1, j2⟩ := decoded_some n r t' hl2 hr h1
      subst h2
      refine ⟨?_, ?_⟩
      · unfold isText at j1 ⊢
        rw [List.all_cons, k1, j1]; rfl
      · rw [encoded_cons, ← j2, ← k2]
theorem bytesN_utf8s : ∀ {t : Text}, isText t = true → bytesN (utf8s t) = encoded t
  | [], _ => rfl
  | c :: t, h => by
    have h' : isChar c = true ∧ isText t = true := by
      unfold isText at h ⊢
      rw [List.all_cons, Bool.and_eq_true] at h
      exact h
    show bytesN (utf8 c ++ utf8s t) = _
    rw [bytesN_app, bytesN_utf8 (isChar_lt h'.1), bytesN_utf8s h'.2]
    rfl
/-- length_told of a read character's first byte -/
theorem lenTold_charAt {d : List Nat} {c : Nat} (hb : ∀ x ∈ d, x < 256) (h : charAt d = some c) : ∃ b r, d = b :: r ∧ lenTold b = (utf8N c).length := by
  obtain ⟨h1, r, h2⟩ := charAt_some hb h
  obtain ⟨b, r', e, e2⟩ := utf8N_len (isChar_lt h1)
  refine ⟨b, r' ++ r, ?_, e2⟩
  rw [h2, e]; rfl
end So
/-! Mirror and mathematics: lines, parts, numbers, words of lines. -/
namespace So
open Sy
/-! ### rows parted at one number -/
/-- what stands before, between and behind the numbers k -/
def partsOf (k : Nat) : List Nat → List (List Nat)
  | [] => [[]]
  | c :: r => if c = k then [] :: partsOf k r else match partsOf k r with
    | p :: ps => (c :: p) :: ps
    | [] => [[c]]
theorem partsOf_ne (k : Nat) : ∀ r, partsOf k r ≠ []
  | [] => by simp [partsOf]
  | c :: r => by
    unfold partsOf
    split
    · simp
    · split <;> simp
/-- a loop's step: parts so far, the part at hand -/
def partStep (k : Nat) (s : List (List Nat) × List Nat) (c : Nat) : List (List Nat) × List Nat := if c = k then (s.1 ++ [s.2], []) else (s.1, s.2 ++ [c])
def partRun (k : Nat) (r : List Nat) : List (List Nat) × List Nat := r.foldl (partStep k) ([], [])
theorem partFold (k : Nat) : ∀ (r : List Nat) (ps : List (List Nat)) (p : List Nat), (let s := r.foldl (partStep k) (ps, p); s.1 ++ [s.2]) = ps ++ (match partsOf k r with
    | q :: qs => (p ++ q) :: qs
    | [] => [p])
  | [], ps, p => by simp [partsOf]
  | c :: r, ps, p => by
    have ne := partsOf_ne k r
    simp only [List.foldl_cons]
    by_cases h : c = k
    · have e : partStep k (ps, p) c = (ps ++ [p], []) := if_pos h
      have e2 : partsOf k (c :: r) = [] :: partsOf k r := if_pos h
      rw [e, partFold k r, e2]
      cases e3 : partsOf k r with
      | nil => exact absurd e3 ne
      | cons q qs => simp
    · have e : partStep k (ps, p) c = (ps, p ++ [c]) := if_neg h
      rw [e, partFold k r]
      cases e3 : partsOf k r with
      | nil => exact absurd e3 ne
      | cons q qs =>
        have e2 : partsOf k (c :: r) = (c :: q) :: qs := by
          unfold partsOf
          rw [if_neg h, e3]
        rw [e2]
        simp
theorem partRun_is (k : Nat) (r : List Nat) : (partRun k r).1 ++ [(partRun k r).2] = partsOf k r := by
  have h := partFold k r [] []
  have ne := partsOf_ne k r
  cases e3 : partsOf k r with
  | nil => exact absurd e3 ne
  | cons q qs =>
    rw [e3] at h
    have h' : (partRun k r).1 ++ [(partRun k r).2] = [] ++ ([] ++ q) :: qs := h
    rw [h']; rfl
/-- put together again -/
def glued (k : Nat) : List (List Nat) → List Nat
  | [] => []
  | [p] => p
  | p :: ps => p ++ k :: glued k ps
theorem glued_parts (k : Nat) : ∀ r, glued k (partsOf k r) = r
  | [] => rfl
  | c :: r => by
    have ne := partsOf_ne k r
    have ih := glued_parts k r
    by_cases h : c = k
    · have e2 : partsOf k (c :: r) = [] :: partsOf k r := if_pos h
      rw [e2]
      cases e3 : partsOf k r with
      | nil => exact absurd e3 ne
      | cons q qs =>
        rw [e3] at ih
        show [] ++ k :: glued k (q :: qs) = c :: r
        rw [ih, h]; rfl
    · cases e3 : partsOf k r with
      | nil => exact absurd e3 ne
      | cons q qs =>
        have e2 : partsOf k (c :: r) = (c :: q) :: qs := by
          unfold partsOf
          rw [if_neg h, e3]
        rw [e2]
        rw [e3] at ih
        cases qs with
        | nil =>
          show c :: q = c :: r
          rw [show q = r from ih]
        | cons q2 qs =>
          show (c :: q) ++ k :: glued k (q2 :: qs) = c :: r
          have : q ++ k :: glued k (q2 :: qs) = r := ih
          rw [← this]; rfl
/-- bytes parted at blanks, as the specification has them -/
theorem parted_is (b : Bytes) : (parted b).map bytesN = partsOf 32 (bytesN b) := by
  unfold parted
  induction b with
  | nil => rfl
  | cons x b ih =>
    rw [List.foldr_cons]
    show _ = partsOf 32 (x.toNat :: bytesN b)
    unfold partsOf
    by_cases h : x = 0x20
    · rw [if_pos h, if_pos (by rw [h]; rfl), List.map_cons, ih]; rfl
    · have h' : ¬ x.toNat = 32 := fun e => h (UInt8.toNat_inj.mp e)
      rw [if_neg h, if_neg h', ← ih]
      generalize List.foldr _ _ b = l
      cases l with
      | nil => rfl
      | cons p r => rfl
/-! ### numbers -/
def isDigit (c : Nat) : Bool := decide (48 ≤ c) && decide (c ≤ 57)
def valueFrom (n : Nat) (p : List Nat) : Nat := p.foldl (fun n c => 10 * n + (c - 48)) n
def capFrom : Nat → List Nat → Option Nat
  | n, [] => some n
  | n, c :: r => if c < 48 ∨ c > 57 then none else capFrom (min (n * 10 + c - 48) 65536) r
/-- number_in -/
def numberIn (p : List Nat) : Option Nat := match p with
  | [] => none
  | c :: r => if c = 48 ∧ (c :: r).length > 1 then none else capFrom 0 (c :: r)
theorem capFrom_is : ∀ (p : List Nat) (n : Nat), capFrom (min n 65536) p = if p.all isDigit = true then some (min (valueFrom n p) 65536) else none
  | [], n => by simp [capFrom, valueFrom]
  | c :: r, n => by
    unfold capFrom
    by_cases h : c < 48 ∨ c > 57
    · rw [if_pos h, if_neg]
      rw [List.all_cons]
      have : isDigit c = false := by
        unfold isDigit
        rcases h with h | h
        · rw [decide_eq_false (by omega : ¬ 48 ≤ c)]; rfl
        · rw [decide_eq_false (by omega : ¬ c ≤ 57), Bool.and_false]
      rw [this]
      simp
    · rw [if_neg h]
      have hd : isDigit c = true := by
        unfold isDigit
        rw [decide_eq_true (by omega : 48 ≤ c), decide_eq_true (by omega : c ≤ 57)]; rfl
      have e : min (min n 65536 * 10 + c - 48) 65536 = min (10 * n + (c - 48)) 65536 := by omega
      rw [e, capFrom_is r (10 * n + (c - 48)), List.all_cons, hd, Bool.true_and]
      rfl
theorem decimalOf_is (b : Bytes) : decimalOf b = (if (bytesN b ≠ []) ∧ ¬ ((bytesN b).head? = some 48 ∧ (bytesN b).length > 1) ∧ (bytesN b).all isDigit = true then some (valueFrom 0 (bytesN b)) else none) := by
  unfold decimalOf
  have e1 : (b.all fun (c : UInt8) => decide (0x30 ≤ c.toNat) && decide (c.toNat ≤ 0x39)) = (bytesN b).all isDigit := by
    unfold bytesN
    rw [List.all_map]; rfl
  have e2 : b.foldl (fun (n : Nat) (c : UInt8) => 10 * n + (c.toNat - 0x30)) 0 = valueFrom 0 (bytesN b) := by
    unfold valueFrom bytesN
    rw [List.foldl_map]
  rw [e1, e2]
  cases b with
  | nil => simp [bytesN]
  | cons x r =>
    have e3 : (x :: r).head? ≠ some (0x30 : UInt8) ↔ ¬ (bytesN (x :: r)).head? = some 48 := by
      have : (x = 0x30) ↔ x.toNat = 48 := ⟨fun e => by rw [e]; rfl, fun e => UInt8.toNat_inj.mp e⟩
      simp [bytesN, this]
    have e4 : (x :: r).length = (bytesN (x :: r)).length := (bytesN_length _).symm
    have e5 : ((!(x :: r).isEmpty) = true) ↔ bytesN (x :: r) ≠ [] := by simp [bytesN]
    rw [e4]
    congr 1
    apply propext
    constructor
    · rintro ⟨h1, h2, h3⟩
      refine ⟨e5.mp h1, ?_, h3⟩
      rintro ⟨q1, q2⟩
      rcases h2 with h2 | h2
      · omega
      · exact (e3.mp h2) q1
    · rintro ⟨h1, h2, h3⟩
      refine ⟨e5.mpr h1, ?_, h3⟩
      by_cases q : (bytesN (x :: r)).length = 1
      · exact .inl q
      · right
        refine e3.mpr fun z => h2 ⟨z, ?_⟩
        have : 1 ≤ (bytesN (x :: r)).length := by simp [bytesN]
        omega
theorem numberIn_is (b : Bytes) : numberIn (bytesN b) = (decimalOf b).map fun n => min n 65536 := by
  rw [decimalOf_is]
  cases e : bytesN b with
  | nil => simp [numberIn]
  | cons c r =>
    show (if c = 48 ∧ (c :: r).length > 1 then none else capFrom 0 (c :: r)) = _
    by_cases h : c = 48 ∧ (c :: r).length > 1
    · rw [if_pos h, if_neg]
      · rfl
      · rintro ⟨_, h2, _⟩
        exact h2 ⟨congrArg some h.1, h.2⟩
    · rw [if_neg h]
      have := capFrom_is (c :: r) 0
      rw [show min 0 65536 = 0 from rfl] at this
      rw [this]
      by_cases q : (c :: r).all isDigit = true
      · rw [if_pos q, if_pos]
        · rfl
        · refine ⟨by simp, ?_, q⟩
          rintro ⟨z1, z2⟩
          exact h ⟨Option.some.inj z1, z2⟩
      · rw [if_neg q, if_neg]
        · rfl
        · rintro ⟨_, _, z⟩
          exact q z
/-! ### a line's word -/
def isFilled (p : List Nat) : Bool := decide (0 < p.length) && p.all isSign
/-- word_in: of a line's characters, without its end; numbers held down to 65536 -/
def wordOfRow (row : List Nat) : Option Word := match partsOf 32 row with
  | [r, t, x, y, c] => if isFilled r = true ∧ isFilled t = true then match numberIn x, numberIn y, numberIn c with
      | some x, some y, some c => some ⟨r, t, x, y, c⟩
      | _, _, _ => none
    else none
  | _ => none
def wordOfLine (d : List Nat) : Option Word := match decoded d with
  | some row => wordOfRow row
  | none => none
def capped (w : Word) : Word := { w with left := min w.left 65536, right := min w.right 65536, cost := min w.cost 65536 }
theorem small_capped (w : Word) : (capped w).small = w.small := by
  unfold Word.small capped
  have e1 : decide (min w.left 65536 < SORTS) = decide (w.left < SORTS) := by
    unfold SORTS
    rw [decide_eq_decide]; omega
  have e2 : decide (min w.right 65536 < SORTS) = decide (w.right < SORTS) := by
    unfold SORTS
    rw [decide_eq_decide]; omega
  have e3 : decide (min w.cost 65536 ≤ COST) = decide (w.cost ≤ COST) := by
    unfold COST
    rw [decide_eq_decide]; omega
  simp only [e1, e2, e3]
theorem capped_small {w : Word} (h : w.small = true) : capped w = w := by
  unfold Word.small at h
  simp only [Bool.and_eq_true, decide_eq_true_eq] at h
  obtain ⟨_, _, h1, h2, h3⟩ := h
  unfold SORTS at h1 h2
  unfold COST at h3
  unfold capped
  rw [Nat.min_eq_left (by omega), Nat.min_eq_left (by omega), Nat.min_eq_left (by omega)]
/-- the bytes of a character that is no blank hold no blank -/
theorem utf8N_no32 {c : Nat} (h : c ≠ 32) : ∀ x ∈ utf8N c, x ≠ 32 := by
  intro x hx
  unfold utf8N at hx
  split at hx
  · simp at hx; omega
  · split at hx
    · simp at hx; omega
    · split at hx
      · simp at hx; omega
      · simp at hx; omega
theorem partsOf_app_no {k : Nat} : ∀ (a r : List Nat), (∀ x ∈ a, x ≠ k) → partsOf k (a ++ r) = (match partsOf k r with
    | p :: ps => (a ++ p) :: ps
    | [] => [a])
  | [], r, _ => by
    have ne := partsOf_ne k r
    cases e : partsOf k r with
    | nil => exact absurd e ne
    | cons p ps => simp [e]
  | x :: a, r, h => by
    have ne := partsOf_ne k r
    have ih := partsOf_app_no a r fun y hy => h y (List.mem_cons_of_mem _ hy)
    have hx : ¬ x = k := h x List.mem_cons_self
    show (if x = k then [] :: partsOf k (a ++ r) else match partsOf k (a ++ r) with
      | p :: ps => (x :: p) :: ps
      | [] => [[x]]) = _
    rw [if_neg hx, ih]
    cases e : partsOf k r with
    | nil => exact absurd e ne
    | cons p ps => rfl
theorem parts_encoded : ∀ row : List Nat, partsOf 32 (encoded row) = (partsOf 32 row).map encoded
  | [] => rfl
  | c :: row => by
    have ih := parts_encoded row
    have ne := partsOf_ne 32 row
    rw [encoded_cons]
    by_cases h : c = 32
    · subst h
      show partsOf 32 (32 :: encoded row) = _
      have e1 : partsOf 32 (32 :: encoded row) = [] :: partsOf 32 (encoded row) := if_pos rfl
      have e2 : partsOf 32 (32 :: row) = [] :: partsOf 32 row := if_pos rfl
      rw [e1, e2, ih]; rfl
    · rw [partsOf_app_no _ _ (utf8N_no32 h), ih]
      cases e : partsOf 32 row with
      | nil => exact absurd e ne
      | cons p ps =>
        have e2 : partsOf 32 (c :: row) = (c :: p) :: ps := by
          show (if c = 32 then _ else _) = _
          rw [if_neg h, e]
        rw [e2]; rfl
theorem signs_text {t : List Nat} (h : t.all isSign = true) : isText t = true := by
  unfold isText
  rw [List.all_eq_true] at h ⊢
  intro x hx
  have := h x hx
  unfold isSign at this
  rw [Bool.and_eq_true] at this
  exact this.1
theorem signsOf_enc (b : Bytes) {t : List Nat} (h : isText t = true) (e : bytesN b = encoded t) : signsOf b = if isFilled t = true then some t else none := by
  unfold signsOf
  rw [chars_is, e, decoded_encoded t h]
  show (if (!t.isEmpty) = true ∧ t.all isSign = true then some t else none) = _
  congr 1
  apply propext
  unfold isFilled
  rw [Bool.and_eq_true, decide_eq_true_eq]
  cases t <;> simp
theorem signsOf_some {b : Bytes} {t : Text} (h : signsOf b = some t) : isFilled t = true ∧ bytesN b = encoded t := by
  unfold signsOf at h
  rw [chars_is] at h
  cases e : decoded (bytesN b) with
  | none => rw [e] at h; cases h
  | some r =>
    rw [e] at h
    have h' : (if (!r.isEmpty) = true ∧ r.all isSign = true then some r else none) = some t := h
    split at h'
    · rename_i q
      cases h'
      refine ⟨?_, (decoded_some _ _ _ (Nat.le_refl _) (bytesN_lt b) e).2⟩
      unfold isFilled
      rw [Bool.and_eq_true, decide_eq_true_eq]
      refine ⟨?_, q.2⟩
      cases t <;> simp at q ⊢
    · cases h'
theorem isFilled_text {t : List Nat} (h : isFilled t = true) : isText t = true := by
  unfold isFilled at h
  rw [Bool.and_eq_true] at h
  exact signs_text h.2
theorem digits_enc : ∀ {p : List Nat}, p.all isDigit = true → encoded p = p ∧ isText p = true
  | [], _ => ⟨rfl, rfl⟩
  | c :: p, h => by
    rw [List.all_cons, Bool.and_eq_true] at h
    obtain ⟨h1, h2⟩ := h
    obtain ⟨k1, k2⟩ := digits_enc h2
    unfold isDigit at h1
    rw [Bool.and_eq_true, decide_eq_true_eq, decide_eq_true_eq] at h1
    have e : utf8N c = [c] := by
      unfold utf8N
      rw [if_pos (by omega)]
    refine ⟨?_, ?_⟩
    · rw [encoded_cons, e, k1]; rfl
    · unfold isText at k2 ⊢
      rw [List.all_cons, k2, Bool.and_true]
      simp [isChar]; omega
theorem decimalOf_digits {b : Bytes} {n : Nat} (h : decimalOf b = some n) : (bytesN b).all isDigit = true := by
  rw [decimalOf_is] at h
  split at h
  · rename_i q; exact q.2.2
  · cases h
/-- numbers of characters and of their bytes -/
theorem numberIn_enc {p : List Nat} (ht : isText p = true) : numberIn (encoded p) = numberIn p := by
  by_cases h : p.all isDigit = true
  · rw [(digits_enc h).1]
  · have no : ∀ q : List Nat, ¬ q.all isDigit = true → numberIn q = none := fun q hq => by
      cases q with
      | nil => exact absurd rfl hq
      | cons c r =>
        show (if _ then none else capFrom 0 (c :: r)) = none
        split
        · rfl
        · have := capFrom_is (c :: r) 0
          rw [show min 0 65536 = 0 from rfl] at this
          rw [this, if_neg hq]
    rw [no p h, no]
    intro z
    apply h
    -- all bytes digits: the characters are the bytes
    have e1 : decoded (encoded p) = some p := decoded_encoded p ht
    have e2 : decoded (encoded (encoded p)) = some (encoded p) := decoded_encoded _ (digits_enc z).2
    rw [(digits_enc z).1, e1] at e2
    rw [Option.some.inj e2]
    exact z
theorem wordOf_is (b : Bytes) : wordOfLine (bytesN b) = (wordOf b).map capped := by
  unfold wordOfLine
  have hp := parted_is b
  cases e : decoded (bytesN b) with
  | some row =>
    obtain ⟨ht, he⟩ := decoded_some _ _ _ (Nat.le_refl _) (bytesN_lt b) e
    rw [he, parts_encoded] at hp
    show wordOfRow row = _
    have htp : ∀ p ∈ partsOf 32 row, isText p = true := by
      intro p hpm
      have : ∀ (r : List Nat) (p : List Nat), p ∈ partsOf 32 r → ∀ x ∈ p, x ∈ r := by
        intro r
        induction r with
        | nil =>
          intro p hp x hx
          simp [partsOf] at hp
          subst hp
          cases hx
        | cons c r ih =>
          intro p hp x hx
          unfold partsOf at hp
          split at hp
          · rcases List.mem_cons.mp hp with rfl | hp
            · cases hx
            · exact List.mem_cons_of_mem _ (ih p hp x hx)
          · have ne := partsOf_ne 32 r
            cases e3 : partsOf 32 r with
            | nil => exact absurd e3 ne
            | cons q qs =>
              rw [e3] at hp ih
              rcases List.mem_cons.mp hp with rfl | hp
              · rcases List.mem_cons.mp hx with rfl | hx
                · exact List.mem_cons_self
                · exact List.mem_cons_of_mem _ (ih q List.mem_cons_self x hx)
              · exact List.mem_cons_of_mem _ (ih p (List.mem_cons_of_mem _ hp) x hx)
      unfold isText at ht ⊢
      rw [List.all_eq_true] at ht ⊢
      intro x hx
      exact ht x (this row p hpm x hx)
    unfold wordOfRow wordOf
    generalize parted b = ps at hp
    generalize partsOf 32 row = qs at hp htp
    by_cases five : ps.length = 5
    · obtain ⟨r, t, x, y, c, rfl⟩ : ∃ r t x y c, ps = [r, t, x, y, c] := by
        rcases ps with _ | ⟨r, _ | ⟨t, _ | ⟨x, _ | ⟨y, _ | ⟨c, _ | ⟨z, ps⟩⟩⟩⟩⟩⟩
        all_goals first | exact ⟨_, _, _, _, _, rfl⟩ | (simp at five)
      obtain ⟨r', t', x', y', c', rfl⟩ : ∃ r t x y c, qs = [r, t, x, y, c] := by
        have := congrArg List.length hp
        rcases qs with _ | ⟨r, _ | ⟨t, _ | ⟨x, _ | ⟨y, _ | ⟨c, _ | ⟨z, qs⟩⟩⟩⟩⟩⟩
        all_goals first | exact ⟨_, _, _, _, _, rfl⟩ | (simp at this)
      simp only [List.map_cons, List.map_nil, List.cons.injEq, and_true] at hp
      obtain ⟨hr, ht', hx, hy, hc⟩ := hp
      have tr : isText r' = true := htp r' (by simp)
      have tt : isText t' = true := htp t' (by simp)
      have tx : isText x' = true := htp x' (by simp)
      have ty : isText y' = true := htp y' (by simp)
      have tc : isText c' = true := htp c' (by simp)
      show (if isFilled r' = true ∧ isFilled t' = true then match numberIn x', numberIn y', numberIn c' with
          | some x, some y, some c => some (⟨r', t', x, y, c⟩ : Word)
          | _, _, _ => none
        else none) = Option.map capped ((signsOf r).bind fun (r : Text) => (signsOf t).bind fun (t : Text) => (decimalOf x).bind fun (x : Nat) => (decimalOf y).bind fun (y : Nat) => (decimalOf c).map fun (c : Nat) => (⟨r, t, x, y, c⟩ : Word))
      rw [signsOf_enc r tr hr, signsOf_enc t tt ht', ← numberIn_enc tx, ← numberIn_enc ty, ← numberIn_enc tc, ← hx, ← hy, ← hc, numberIn_is, numberIn_is, numberIn_is]
      by_cases f1 : isFilled r' = true
      · by_cases f2 : isFilled t' = true
        · rw [if_pos ⟨f1, f2⟩, if_pos f1, if_pos f2]
          cases decimalOf x with
          | none => rfl
          | some x =>
            cases decimalOf y with
            | none => rfl
            | some y =>
              cases decimalOf c with
              | none => rfl
              | some c => rfl
        · rw [if_neg (fun z => f2 z.2), if_pos f1, if_neg f2]; rfl
      · rw [if_neg (fun z => f1 z.1), if_neg f1]; rfl
    · have f2 : qs.length ≠ 5 := fun z => five (by
        have := congrArg List.length hp
        rw [List.length_map, List.length_map] at this
        omega)
      have n1 : ∀ {α : Type} (l : List (List Nat)) (g : List Nat → List Nat → List Nat → List Nat → List Nat → Option α), l.length ≠ 5 → (match l with
          | [r, t, x, y, c] => g r t x y c
          | _ => none) = none := by
        intro α l g h
        split
        · exact absurd rfl h
        · rfl
      rw [n1 qs _ f2]
      split
      · exact absurd rfl five
      · rfl
  | none =>
    show none = _
    cases q : wordOf b with
    | none => rfl
    | some w =>
      exfalso
      unfold wordOf at q
      generalize hps : parted b = ps at q hp
      match ps, q with
      | [], q => cases q
      | [_], q => cases q
      | [_, _], q => cases q
      | [_, _, _], q => cases q
      | [_, _, _, _], q => cases q
      | _ :: _ :: _ :: _ :: _ :: _ :: _, q => cases q
      | [r, t, x, y, c], q =>
        replace q : ((signsOf r).bind fun (r : Text) => (signsOf t).bind fun (t : Text) => (decimalOf x).bind fun (x : Nat) => (decimalOf y).bind fun (y : Nat) => (decimalOf c).map fun (c : Nat) => (⟨r, t, x, y, c⟩ : Word)) = some w := q
        cases e1 : signsOf r with
        | none => rw [e1] at q; cases q
        | some r' =>
          cases e2 : signsOf t with
          | none => rw [e1, e2] at q; cases q
          | some t' =>
            cases e3 : decimalOf x with
            | none => rw [e1, e2, e3] at q; cases q
            | some x' =>
              cases e4 : decimalOf y with
              | none => rw [e1, e2, e3, e4] at q; cases q
              | some y' =>
                cases e5 : decimalOf c with
                | none => rw [e1, e2, e3, e4, e5] at q; cases q
                | some c' =>
                  obtain ⟨k1, k2⟩ := signsOf_some e1
                  obtain ⟨j1, j2⟩ := signsOf_some e2
                  obtain ⟨d1, d2⟩ := digits_enc (decimalOf_digits e3)
                  obtain ⟨d3, d4⟩ := digits_enc (decimalOf_digits e4)
                  obtain ⟨d5, d6⟩ := digits_enc (decimalOf_digits e5)
                  have g := glued_parts 32 (bytesN b)
                  rw [← hp] at g
                  have g' : bytesN r ++ 32 :: (bytesN t ++ 32 :: (bytesN x ++ 32 :: (bytesN y ++ 32 :: bytesN c))) = bytesN b := g
                  have e32 : ∀ l, 32 :: encoded l = encoded (32 :: l) := fun l => rfl
                  rw [k2, j2, ← d1, ← d3, ← d5, e32, ← encoded_app, e32, ← encoded_app, e32, ← encoded_app, e32, ← encoded_app] at g'
                  have iT : isText (r' ++ 32 :: (t' ++ 32 :: (bytesN x ++ 32 :: (bytesN y ++ 32 :: bytesN c)))) = true := by
                    have a1 := isFilled_text k1
                    have a2 := isFilled_text j1
                    unfold isText at *
                    have b32 : isChar 32 = true := rfl
                    simp only [List.all_append, List.all_cons, Bool.and_eq_true]
                    exact ⟨a1, b32, a2, b32, d2, b32, d4, b32, d6⟩
                  rw [← g', decoded_encoded _ iT] at e
                  cases e
end So
/-! Mirror and mathematics: the order, the lexicon, reading and writing it. -/
namespace So
open Sy
/-! ### the order of rows and of words -/
theorem bef_irr : ∀ a : Text, before a a = false
  | [] => rfl
  | x :: a => by
    show (decide (x < x) || (x == x && before a a)) = false
    rw [bef_irr a]
    simp
theorem bef_cons {x y : Nat} {a b : Text} : before (x :: a) (y :: b) = true ↔ x < y ∨ (x = y ∧ before a b = true) := by
  show (decide (x < y) || (x == y && before a b)) = true ↔ _
  simp
theorem bef_trans : ∀ {a b c : Text}, before a b = true → before b c = true → before a c = true
  | [], [], _, h, _ => absurd h (by simp [before])
  | [], _ :: _, [], _, h => absurd h (by simp [before])
  | [], _ :: _, _ :: _, _, _ => rfl
  | _ :: _, [], _, h, _ => absurd h (by simp [before])
  | _ :: _, _ :: _, [], _, h => absurd h (by simp [before])
  | x :: a, y :: b, z :: c, h1, h2 => by
    rw [bef_cons] at h1 h2 ⊢
    rcases h1 with h1 | ⟨h1, k1⟩
    · rcases h2 with h2 | ⟨h2, k2⟩
      · left; omega
      · left; omega
    · rcases h2 with h2 | ⟨h2, k2⟩
      · left; omega
      · right; exact ⟨h1.trans h2, bef_trans k1 k2⟩
theorem bef_tri : ∀ a b : Text, before a b = true ∨ a = b ∨ before b a = true
  | [], [] => .inr (.inl rfl)
  | [], _ :: _ => .inl rfl
  | _ :: _, [] => .inr (.inr rfl)
  | x :: a, y :: b => by
    rw [bef_cons, bef_cons]
    rcases Nat.lt_trichotomy x y with h | h | h
    · exact .inl (.inl h)
    · rcases bef_tri a b with k | k | k
      · exact .inl (.inr ⟨h, k⟩)
      · exact .inr (.inl (by rw [h, k]))
      · exact .inr (.inr (.inr ⟨h.symm, k⟩))
    · exact .inr (.inr (.inl h))
theorem bef_asym {a b : Text} (h : before a b = true) : before b a = false := by
  cases e : before b a with
  | false => rfl
  | true =>
    have := bef_trans h e
    rw [bef_irr] at this
    cases this
theorem wbef_iff {a b : Word} : a.before b = true ↔ before a.reading b.reading = true ∨ (a.reading = b.reading ∧ (a.cost < b.cost ∨ (a.cost = b.cost ∧ before a.text b.text = true))) := by
  unfold Word.before
  simp
theorem wbef_irr (a : Word) : a.before a = false := by
  cases e : a.before a with
  | false => rfl
  | true =>
    rw [wbef_iff] at e
    rcases e with e | ⟨_, e | ⟨_, e⟩⟩
    · rw [bef_irr] at e; cases e
    · omega
    · rw [bef_irr] at e; cases e
theorem wbef_trans {a b c : Word} (h1 : a.before b = true) (h2 : b.before c = true) : a.before c = true := by
  rw [wbef_iff] at h1 h2 ⊢
  rcases h1 with h1 | ⟨h1, k1⟩
  · rcases h2 with h2 | ⟨h2, _⟩
    · exact .inl (bef_trans h1 h2)
    · rw [← h2]; exact .inl h1
  · rcases h2 with h2 | ⟨h2, k2⟩
    · rw [h1]; exact .inl h2
    · refine .inr ⟨h1.trans h2, ?_⟩
      rcases k1 with k1 | ⟨k1, j1⟩
      · rcases k2 with k2 | ⟨k2, j2⟩
        · left; omega
        · left; omega
      · rcases k2 with k2 | ⟨k2, j2⟩
        · left; omega
        · right; exact ⟨k1.trans k2, bef_trans j1 j2⟩
theorem wbef_asym {a b : Word} (h : a.before b = true) : b.before a = false := by
  cases e : b.before a with
  | false => rfl
  | true =>
    have := wbef_trans h e
    rw [wbef_irr] at this
    cases this
theorem same_iff {a b : Word} : a.same b = true ↔ a.reading = b.reading ∧ a.text = b.text := by
  unfold Word.same
  simp
theorem same_comm (a b : Word) : a.same b = b.same a := by
  rw [Bool.eq_iff_iff, same_iff, same_iff]
  exact ⟨fun h => ⟨h.1.symm, h.2.symm⟩, fun h => ⟨h.1.symm, h.2.symm⟩⟩
theorem wbef_tri {a b : Word} (h : a.same b = false) : a.before b = true ∨ b.before a = true := by
  rw [wbef_iff, wbef_iff]
  rcases bef_tri a.reading b.reading with k | k | k
  · exact .inl (.inl k)
  · rcases Nat.lt_trichotomy a.cost b.cost with c | c | c
    · exact .inl (.inr ⟨k, .inl c⟩)
    · rcases bef_tri a.text b.text with t | t | t
      · exact .inl (.inr ⟨k, .inr ⟨c, t⟩⟩)
      · have := same_iff.mpr ⟨k, t⟩
        rw [h] at this
        cases this
      · exact .inr (.inr ⟨k.symm, .inr ⟨c.symm, t⟩⟩)
    · exact .inr (.inr ⟨k.symm, .inl c⟩)
  · exact .inr (.inl k)
theorem wbef_no {a b : Word} (h : a.same b = false) : a.before b = false ↔ b.before a = true := by
  constructor
  · intro e
    rcases wbef_tri h with k | k
    · rw [e] at k; cases k
    · exact k
  · exact wbef_asym
/-! ### in order -/
abbrev InOrder (L : List Word) : Prop := L.Pairwise fun a b => a.before b = true
abbrev NoTwo (L : List Word) : Prop := L.Pairwise fun a b => a.same b = false
theorem order_unique : ∀ {L M : List Word}, L.Perm M → InOrder L → InOrder M → L = M
  | [], M, p, _, _ => by
    rw [List.nil_perm.mp p]
  | a :: L, [], p, _, _ => absurd p.length_eq (by simp)
  | a :: L, b :: M, p, h1, h2 => by
    have e : a = b := by
      rcases List.mem_cons.mp (p.mem_iff.mp (List.mem_cons_self (a := a) (l := L))) with e | m1
      · exact e
      · rcases List.mem_cons.mp (p.symm.mem_iff.mp (List.mem_cons_self (a := b) (l := M))) with e | m2
        · exact e.symm
        · have k1 := (List.pairwise_cons.mp h2).1 a m1
          have k2 := (List.pairwise_cons.mp h1).1 b m2
          rw [wbef_asym k1] at k2
          cases k2
    subst e
    rw [order_unique ((List.perm_cons a).mp p) (List.pairwise_cons.mp h1).2 (List.pairwise_cons.mp h2).2]
theorem noTwo_perm {L M : List Word} (p : L.Perm M) (h : NoTwo L) : NoTwo M :=
  p.pairwise h fun {x y} q => by rw [same_comm]; exact q
theorem putWord_perm (w : Word) : ∀ L, (putWord w L).Perm (w :: L)
  | [] => List.Perm.refl _
  | q :: L => by
    unfold putWord
    split
    · exact List.Perm.refl _
    · exact ((putWord_perm w L).cons q).trans (List.Perm.swap w q L)
theorem putWord_order {w : Word} : ∀ {L : List Word}, InOrder L → (∀ q ∈ L, q.same w = false) → InOrder (putWord w L)
  | [], _, _ => List.pairwise_singleton _ _
  | q :: L, h, n => by
    unfold putWord
    split
    · rename_i c
      refine List.pairwise_cons.mpr ⟨fun b hb => ?_, h⟩
      rcases List.mem_cons.mp hb with rfl | hb
      · exact c
      · exact wbef_trans c ((List.pairwise_cons.mp h).1 b hb)
    · rename_i c
      have hq : q.same w = false := n q List.mem_cons_self
      have c' : w.before q = false := by simpa using c
      have k : q.before w = true := (wbef_no (by rw [same_comm]; exact hq)).mp c'
      refine List.pairwise_cons.mpr ⟨fun b hb => ?_, putWord_order (List.pairwise_cons.mp h).2 fun q hq => n q (List.mem_cons_of_mem _ hq)⟩
      rcases List.mem_cons.mp ((putWord_perm w L).mem_iff.mp hb) with rfl | hb
      · exact k
      · exact (List.pairwise_cons.mp h).1 b hb
/-- where a word goes in: those before it, it, the others -/
theorem putWord_split {w : Word} : ∀ {L : List Word}, InOrder L → (∀ q ∈ L, q.same w = false) →
    putWord w L = L.filter (fun q => q.before w) ++ [w] ++ L.drop (L.filter fun q => q.before w).length
  | [], _, _ => rfl
  | q :: L, h, n => by
    have hq : q.same w = false := n q List.mem_cons_self
    have ho := List.pairwise_cons.mp h
    unfold putWord
    by_cases c : w.before q = true
    · rw [if_pos c]
      have e : (q :: L).filter (fun q => q.before w) = [] := by
        rw [List.filter_eq_nil_iff]
        intro x hx hxw
        have : w.before x = true := by
          rcases List.mem_cons.mp hx with rfl | hx
          · exact c
          · exact wbef_trans c (ho.1 x hx)
        rw [wbef_asym this] at hxw
        cases hxw
      rw [e]; rfl
    · rw [if_neg c]
      have c' : w.before q = false := by simpa using c
      have k : q.before w = true := (wbef_no (by rw [same_comm]; exact hq)).mp c'
      have e : (q :: L).filter (fun q => q.before w) = q :: L.filter fun q => q.before w := List.filter_cons_of_pos (p := fun (q : Word) => q.before w) k
      rw [putWord_split ho.2 fun q hq => n q (List.mem_cons_of_mem _ hq), e]
      simp
/-! ### the lexicon as it stands -/
structure Lex (L : List Word) : Prop where
  order : InOrder L
  no2 : NoTwo L
  few : L.length ≤ 128
  ok : ∀ w ∈ L, w.ok = true
theorem Lex.nil : Lex [] := ⟨List.Pairwise.nil, List.Pairwise.nil, by decide, fun _ h => by cases h⟩
theorem others_order {L : List Word} (h : Lex L) (w : Word) : InOrder (L.filter fun q => !q.same w) := h.order.filter _
theorem others_no (L : List Word) (w : Word) : ∀ q ∈ L.filter (fun q => !q.same w), q.same w = false := by
  intro q hq
  simpa using (List.mem_filter.mp hq).2
theorem others_two {L : List Word} (h : Lex L) (w : Word) : NoTwo (L.filter fun q => !q.same w) := h.no2.filter _
/-- put, as the program does it -/
def putP (L : List Word) (w : Word) : List Word :=
  let o := L.filter fun q => !q.same w
  let b := o.filter fun q => q.before w
  b ++ [w] ++ o.drop b.length
theorem putP_is {L : List Word} (h : Lex L) (w : Word) : put L w = putP L w := by
  unfold put putP
  exact putWord_split (others_order h w) (others_no L w)
theorem put_perm (L : List Word) (w : Word) : (put L w).Perm (w :: L.filter fun q => !q.same w) := putWord_perm w _
theorem put_length (L : List Word) (w : Word) : (put L w).length = (L.filter fun q => !q.same w).length + 1 := by
  rw [(put_perm L w).length_eq]; rfl
theorem put_lex {L : List Word} (h : Lex L) {w : Word} (hw : w.ok = true) (hf : (L.filter fun q => !q.same w).length < 128) : Lex (put L w) := by
  refine ⟨putWord_order (others_order h w) (others_no L w), ?_, ?_, ?_⟩
  · refine noTwo_perm (put_perm L w).symm (List.pairwise_cons.mpr ⟨fun b hb => ?_, others_two h w⟩)
    rw [same_comm]
    exact others_no L w b hb
  · rw [put_length]; omega
  · intro x hx
    rcases List.mem_cons.mp ((put_perm L w).mem_iff.mp hx) with rfl | hx
    · exact hw
    · exact h.ok x (List.mem_filter.mp hx).1
theorem findIdx_app {α : Type} {p : α → Bool} : ∀ {A : List α} {x : α} {B : List α}, (∀ a ∈ A, p a = false) → p x = true → (A ++ [x] ++ B).findIdx? p = some A.length
  | [], x, B, _, hx => by simp [List.findIdx?_cons, hx]
  | a :: A, x, B, h, hx => by
    have := findIdx_app (B := B) (fun b hb => h b (List.mem_cons_of_mem _ hb)) hx
    show (a :: (A ++ [x] ++ B)).findIdx? p = _
    rw [List.findIdx?_cons, h a List.mem_cons_self, this]
    rfl
theorem put_number {L : List Word} (h : Lex L) (w : Word) : numberOfWord (put L w) w.reading w.text = some ((L.filter fun q => !q.same w).filter fun q => q.before w).length := by
  rw [putP_is h]
  unfold putP numberOfWord
  refine findIdx_app (fun a ha => ?_) (by simp)
  have := others_no L w a (List.mem_filter.mp ha).1
  exact this
theorem drop_lex {L : List Word} (h : Lex L) (i : Nat) : Lex (L.eraseIdx i) := by
  have s : (L.eraseIdx i).Sublist L := List.eraseIdx_sublist ..
  exact ⟨h.order.sublist s, h.no2.sublist s, Nat.le_trans s.length_le h.few, fun w hw => h.ok w (s.subset hw)⟩
/-! ### lines -/
def lineStep (s : List (List Nat) × List Nat) (b : Nat) : List (List Nat) × List Nat := if b = 10 then (s.1 ++ [s.2 ++ [b]], []) else (s.1, s.2 ++ [b])
def lineEnd (s : List (List Nat) × List Nat) : List (List Nat) := if 0 < s.2.length then s.1 ++ [s.2] else s.1
def lineRun (d : List Nat) : List (List Nat) × List Nat := d.foldl lineStep ([], [])
/-- the lines, each with its end; the last may lack it -/
def closing : List (List Nat) → List (List Nat)
  | [] => []
  | [p] => if 0 < p.length then [p] else []
  | p :: q :: ps => (p ++ [10]) :: closing (q :: ps)
def linesOf (d : List Nat) : List (List Nat) := closing (partsOf 10 d)
theorem closing_cons (p : List Nat) {l : List (List Nat)} (h : l ≠ []) : closing (p :: l) = (p ++ [10]) :: closing l := by
  cases l with
  | nil => exact absurd rfl h
  | cons q ps => rfl
theorem lineFold : ∀ (d : List Nat) (ls : List (List Nat)) (l : List Nat),
    lineEnd (d.foldl lineStep (ls, l)) = ls ++ closing (match partsOf 10 d with
      | p :: ps => (l ++ p) :: ps
      | [] => [])
  | [], ls, l => by
    show (if 0 < l.length then ls ++ [l] else ls) = ls ++ closing [l ++ []]
    rw [List.append_nil]
    show _ = ls ++ (if 0 < l.length then [l] else [])
    split
    · rfl
    · rw [List.append_nil]
  | b :: d, ls, l => by
    have ne := partsOf_ne 10 d
    rw [List.foldl_cons]
    by_cases h : b = 10
    · have e : lineStep (ls, l) b = (ls ++ [l ++ [b]], []) := if_pos h
      have e2 : partsOf 10 (b :: d) = [] :: partsOf 10 d := if_pos h
      rw [e, lineFold d, e2]
      show _ = ls ++ closing ((l ++ []) :: partsOf 10 d)
      rw [List.append_nil, closing_cons _ ne]
      cases e3 : partsOf 10 d with
      | nil => exact absurd e3 ne
      | cons q qs =>
        rw [h]
        simp
    · have e : lineStep (ls, l) b = (ls, l ++ [b]) := if_neg h
      rw [e, lineFold d]
      cases e3 : partsOf 10 d with
      | nil => exact absurd e3 ne
      | cons q qs =>
        have e2 : partsOf 10 (b :: d) = (b :: q) :: qs := by
          unfold partsOf
          rw [if_neg h, e3]
        rw [e2]
        simp
theorem lineRun_is (d : List Nat) : lineEnd (lineRun d) = linesOf d := by
  have h := lineFold d [] []
  have ne := partsOf_ne 10 d
  have h' : lineEnd (lineRun d) = [] ++ closing (match partsOf 10 d with
      | p :: ps => ([] ++ p) :: ps
      | [] => []) := h
  rw [h']
  unfold linesOf
  cases e3 : partsOf 10 d with
  | nil => exact absurd e3 ne
  | cons q qs => rfl
/-! ### a text read -/
def wordIn (l : List Nat) : Option Word := if l.getLast? = some 10 then wordOfLine l.dropLast else none
def faultKind (ow : Option Word) (ws : List Word) : Nat := match ow with
  | none => 1
  | some w => if w.ok = false then 2 else if ws.any (fun q => w.same q) = true then 3 else if 128 ≤ ws.length then 4 else 0
def readLines : Nat → List (List Nat) → List Word → Except (Nat × Nat) (List Word)
  | _, [], ws => .ok ws
  | i, l :: ls, ws => match wordIn l with
    | none => .error (i, 1)
    | some w => if faultKind (some w) ws = 0 then readLines (i + 1) ls (ws ++ [w]) else .error (i, faultKind (some w) ws)
theorem wordOfRow_filled {row : List Nat} {w : Word} (h : wordOfRow row = some w) : isFilled w.reading = true ∧ isFilled w.text = true := by
  unfold wordOfRow at h
  split at h
  · split at h
    · rename_i f
      split at h
      · cases h; exact f
      · cases h
    · cases h
  · cases h
theorem wordOfLine_filled {d : List Nat} {w : Word} (h : wordOfLine d = some w) : isFilled w.reading = true ∧ isFilled w.text = true := by
  unfold wordOfLine at h
  split at h
  · exact wordOfRow_filled h
  · cases h
theorem ok_of_filled {w : Word} (h : isFilled w.reading = true ∧ isFilled w.text = true) : w.ok = w.small := by
  unfold isFilled at h
  simp only [Bool.and_eq_true, decide_eq_true_eq] at h
  obtain ⟨⟨h1, h2⟩, h3, h4⟩ := h
  unfold Word.ok
  have e1 : w.reading.isEmpty = false := by
    cases e : w.reading with
    | nil => rw [e] at h1; simp at h1
    | cons _ _ => rfl
  have e2 : w.text.isEmpty = false := by
    cases e : w.text with
    | nil => rw [e] at h3; simp at h3
    | cons _ _ => rfl
  rw [e1, e2, h2, h4]
  simp
/-- a line at the front: its bytes, what is behind its end -/
theorem line_front (b : Bytes) : (∃ l r, b = l ++ 0x0A :: r ∧ l = b.takeWhile (fun c => c != 0x0A) ∧ b.drop l.length = 0x0A :: r ∧ partsOf 10 (bytesN b) = bytesN l :: partsOf 10 (bytesN r)) ∨
    (b.takeWhile (fun c => c != 0x0A) = b ∧ partsOf 10 (bytesN b) = [bytesN b]) := by
  induction b with
  | nil => exact .inr ⟨rfl, rfl⟩
  | cons x b ih =>
    by_cases hx : x = 0x0A
    · left
      subst hx
      refine ⟨[], b, rfl, rfl, rfl, ?_⟩
      show partsOf 10 (10 :: bytesN b) = _
      exact if_pos rfl
    · have hx' : ¬ x.toNat = 10 := fun e => hx (UInt8.toNat_inj.mp e)
      have ht : (x :: b).takeWhile (fun c => c != 0x0A) = x :: b.takeWhile fun c => c != 0x0A := by
        rw [List.takeWhile_cons_of_pos]
        simpa using hx
      have hp : partsOf 10 (bytesN (x :: b)) = (match partsOf 10 (bytesN b) with
          | p :: ps => (x.toNat :: p) :: ps
          | [] => [[x.toNat]]) := by
        show (if x.toNat = 10 then _ else _) = _
        rw [if_neg hx']
        rfl
      rcases ih with ⟨l, r, e1, e2, e3, e4⟩ | ⟨e1, e2⟩
      · left
        refine ⟨x :: l, r, by rw [e1]; rfl, by rw [ht, ← e2], e3, ?_⟩
        rw [hp, e4]; rfl
      · right
        refine ⟨by rw [ht, e1], ?_⟩
        rw [hp, e2]; rfl
/-- the words so far and the specification's lexicon of them -/
structure Both (ws L : List Word) : Prop where
  perm : L.Perm ws
  lex : Lex L
theorem any_perm {L ws : List Word} (p : L.Perm ws) (f : Word → Bool) : L.any f = ws.any f := by
  rw [Bool.eq_iff_iff, List.any_eq_true, List.any_eq_true]
  constructor
  · rintro ⟨x, hx, h⟩; exact ⟨x, p.mem_iff.mp hx, h⟩
  · rintro ⟨x, hx, h⟩; exact ⟨x, p.mem_iff.mpr hx, h⟩
/-- what reading tells: the program's and the specification's -/
def Told : Except (Nat × Nat) (List Word) → Except (Nat × Nat) (List Word) → Prop
  | .error e, .error f => e = f
  | .ok ws, .ok L => Both ws L
  | _, _ => False
theorem readLines_is : ∀ (n i : Nat) (b : Bytes) (ws L : List Word), b.length ≤ n → ws.length = i → Both ws L → Told (readLines i (linesOf (bytesN b)) ws) (readWordsFrom n i b L)
  | n, i, [], ws, L, _, _, h => by
    have e : readWordsFrom n i [] L = .ok L := by
      cases n <;> rfl
    rw [e]
    exact h
  | 0, _, _ :: _, _, _, h, _, _ => absurd h (by simp)
  | n + 1, i, x :: b, ws, L, hn, hi, h => by
    have unf : readWordsFrom (n + 1) i (x :: b) L = (match (x :: b).drop ((x :: b).takeWhile fun c => c != 0x0A).length, wordOf ((x :: b).takeWhile fun c => c != 0x0A) with
      | _ :: r, some w => if w.small = false then .error (i, 2) else if L.any (fun (q : Word) => q.same w) = true then .error (i, 3) else if WORDS ≤ i then .error (i, 4) else readWordsFrom n (i + 1) r (putWord w L)
      | _, _ => .error (i, 1)) := rfl
    rw [unf]
    rcases line_front (x :: b) with ⟨l, r, e1, e2, e3, e4⟩ | ⟨e1, e2⟩
    · rw [← e2, e3]
      have el : linesOf (bytesN (x :: b)) = (bytesN l ++ [10]) :: linesOf (bytesN r) := by
        unfold linesOf
        rw [e4, closing_cons _ (partsOf_ne _ _)]
      rw [el]
      have ew : wordIn (bytesN l ++ [10]) = (wordOf l).map capped := by
        unfold wordIn
        rw [if_pos (by simp), List.dropLast_concat, wordOf_is]
      show Told (match wordIn (bytesN l ++ [10]) with
        | none => .error (i, 1)
        | some w => if faultKind (some w) ws = 0 then readLines (i + 1) (linesOf (bytesN r)) (ws ++ [w]) else .error (i, faultKind (some w) ws)) _
      rw [ew]
      cases q : wordOf l with
      | none => exact rfl
      | some w =>
        have hf : isFilled (capped w).reading = true ∧ isFilled (capped w).text = true := by
          refine wordOfLine_filled (d := bytesN l) ?_
          rw [wordOf_is, q]; rfl
        have hok := ok_of_filled hf
        have hsm := small_capped w
        show Told (if faultKind (some (capped w)) ws = 0 then readLines (i + 1) (linesOf (bytesN r)) (ws ++ [capped w]) else .error (i, faultKind (some (capped w)) ws))
          (if w.small = false then .error (i, 2) else if L.any (fun (q : Word) => q.same w) = true then .error (i, 3) else if WORDS ≤ i then .error (i, 4) else readWordsFrom n (i + 1) r (putWord w L))
        by_cases c1 : w.small = false
        · have k : faultKind (some (capped w)) ws = 2 := by
            show (if (capped w).ok = false then 2 else _) = 2
            rw [if_pos (by rw [hok, hsm]; exact c1)]
          rw [k, if_neg (by decide), if_pos c1]
          exact rfl
        · have c1' : w.small = true := by simpa using c1
          have ec : capped w = w := capped_small c1'
          rw [ec] at hok ⊢
          have k0 : faultKind (some w) ws = if ws.any (fun q => w.same q) = true then 3 else if 128 ≤ ws.length then 4 else 0 := by
            show (if w.ok = false then 2 else _) = _
            rw [if_neg (by rw [hok]; exact c1)]
          have ea : ws.any (fun q => w.same q) = L.any fun q => q.same w := by
            rw [any_perm h.perm]
            congr 1
            funext q
            exact same_comm _ _
          rw [if_neg c1, k0, ea]
          by_cases c2 : (L.any fun q => q.same w) = true
          · rw [if_pos c2, if_neg (by decide), if_pos c2]
            exact rfl
          · rw [if_neg c2, if_neg c2, hi]
            by_cases c3 : 128 ≤ i
            · rw [if_pos c3, if_neg (by decide), if_pos (show WORDS ≤ i from c3)]
              exact rfl
            · rw [if_neg c3, if_pos rfl, if_neg (show ¬ WORDS ≤ i from c3)]
              have nos : ∀ q ∈ L, q.same w = false := by
                intro q hq
                cases e : q.same w with
                | false => rfl
                | true => exact absurd (List.any_eq_true.mpr ⟨q, hq, e⟩) c2
              have pp : (putWord w L).Perm (ws ++ [w]) := (putWord_perm w L).trans ((h.perm.cons w).trans (List.perm_append_comm (l₁ := [w]) (l₂ := ws)))
              refine readLines_is n (i + 1) r (ws ++ [w]) (putWord w L) ?_ (by rw [List.length_append, hi]; rfl) ⟨pp, putWord_order h.lex.order nos, ?_, ?_, ?_⟩
              · have := congrArg List.length e1
                simp only [List.length_append, List.length_cons] at this hn
                omega
              · refine noTwo_perm (putWord_perm w L).symm (List.pairwise_cons.mpr ⟨fun q hq => ?_, h.lex.no2⟩)
                rw [same_comm]
                exact nos q hq
              · rw [(putWord_perm w L).length_eq, List.length_cons, h.perm.length_eq]
                omega
              · intro q hq
                rcases List.mem_cons.mp ((putWord_perm w L).mem_iff.mp hq) with rfl | hq
                · rw [hok]; exact c1'
                · exact h.lex.ok q hq
    · rw [e1, List.drop_length]
      have el : linesOf (bytesN (x :: b)) = [bytesN (x :: b)] := by
        unfold linesOf
        rw [e2]
        rfl
      rw [el]
      have ew : wordIn (bytesN (x :: b)) = none := by
        unfold wordIn
        rw [if_neg]
        intro z
        have hm : (10 : Nat) ∈ bytesN (x :: b) := List.mem_of_getLast? z
        obtain ⟨y, hy, e⟩ := List.mem_map.mp hm
        rw [← e1] at hy
        have q := List.all_eq_true.mp (List.all_takeWhile (p := fun (c : UInt8) => c != 0x0A) (l := x :: b)) y hy
        have z : y = 0x0A := UInt8.toNat_inj.mp e
        rw [z] at q
        exact absurd q (by decide)
      show Told (match wordIn (bytesN (x :: b)) with
        | none => .error (i, 1)
        | some w => if faultKind (some w) ws = 0 then readLines (i + 1) [] (ws ++ [w]) else .error (i, faultKind (some w) ws)) _
      rw [ew]
      exact rfl
theorem read_is (b : Bytes) : Told (readLines 0 (linesOf (bytesN b)) []) (readWords b) := readLines_is b.length 0 b [] [] (Nat.le_refl _) rfl ⟨List.Perm.refl _, Lex.nil⟩
/-- the words of a text, sorted in any way that the order allows, are the specification's -/
theorem sorted_is {ws L M : List Word} (h : Both ws L) (p : M.Perm ws) (s : M.Pairwise fun a b => b.before a = false) : M = L := by
  refine order_unique (p.trans h.perm.symm) ?_ h.lex.order
  have n : NoTwo M := noTwo_perm (h.perm.trans p.symm) h.lex.no2
  have both : M.Pairwise fun a b => b.before a = false ∧ a.same b = false := List.pairwise_and_iff.mpr ⟨s, n⟩
  exact both.imp fun {a b} q => (wbef_no (by rw [same_comm]; exact q.2)).mp q.1
/-! ### a lexicon's text -/
def digitsOf (n : Nat) : List Nat := (Nat.toDigits 10 n).map Char.toNat
def lineOf (w : Word) : List Nat := encoded w.reading ++ [32] ++ encoded w.text ++ 32 :: digitsOf w.left ++ 32 :: digitsOf w.right ++ 32 :: digitsOf w.cost ++ [10]
def textOf (L : List Word) : List Nat := L.flatMap lineOf
end So
/-! Mathematics: what the calls answer, in the specification's words; the calls as one list of numbers. -/
namespace So
open Sy
/-! ### written -/
theorem digits_dec (n : Nat) : bytesN (decimal n) = digitsOf n := by
  unfold decimal digitsOf bytesN
  rw [List.map_map]
  refine List.map_congr_left fun c hc => ?_
  show (UInt8.ofNat c.toNat).toNat = c.toNat
  rw [UInt8.toNat_ofNat']
  refine Nat.mod_eq_of_lt ?_
  have := Nat.isDigit_of_mem_toDigits (b := 10) (by decide) (by decide) hc
  simp only [Char.isDigit, Bool.and_eq_true, decide_eq_true_eq] at this
  have h2 := this.2
  have h3 : c.val ≤ 57 := h2
  have h4 : c.toNat ≤ 57 := by
    have := UInt32.le_iff_toNat_le.mp h3
    exact this
  omega
theorem ok_texts {w : Word} (h : w.ok = true) : isText w.reading = true ∧ isText w.text = true := by
  unfold Word.ok at h
  simp only [Bool.and_eq_true] at h
  exact ⟨signs_text h.2.2.2.1, signs_text h.2.2.2.2⟩
theorem bytesN_cons (c : UInt8) (b : Bytes) : bytesN (c :: b) = c.toNat :: bytesN b := rfl
theorem line_is {w : Word} (h : w.ok = true) : bytesN (wordLine w) = lineOf w := by
  obtain ⟨h1, h2⟩ := ok_texts h
  unfold wordLine lineOf
  rw [bytesN_app, bytesN_cons, bytesN_app, bytesN_cons, bytesN_app, bytesN_cons, bytesN_app, bytesN_cons, bytesN_app, bytesN_utf8s h1, bytesN_utf8s h2, digits_dec, digits_dec, digits_dec]
  simp [bytesN]
theorem written_is : ∀ {L : List Word}, (∀ w ∈ L, w.ok = true) → bytesN (lexiconWritten L) = textOf L
  | [], _ => rfl
  | w :: L, h => by
    show bytesN (wordLine w ++ lexiconWritten L) = lineOf w ++ textOf L
    rw [bytesN_app, line_is (h w List.mem_cons_self), written_is fun x hx => h x (List.mem_cons_of_mem _ hx)]
/-! ### the calls' answers -/
abbrev zi (l : List Nat) : List Int := l.map fun (n : Nat) => (n : Int)
theorem bytes_told (b : Bytes) : SyRows.bytesTold b = zi (bytesN b) := by
  show b.map (fun (c : UInt8) => (c.toNat : Int)) = (b.map UInt8.toNat).map fun (n : Nat) => (n : Int)
  rw [List.map_map]
  rfl
/-- what a call answers, as it is told; the lexicon then -/
def saysX (L : List Word) (x : SyC.Call) : List Int := LexNeutral.told x (SyC.step L x).2
def thenX (L : List Word) (x : SyC.Call) : List Word := (SyC.step L x).1
theorem begin_x (L : List Word) : saysX L .begin_ = [0] ∧ thenX L .begin_ = [] := ⟨rfl, rfl⟩
theorem count_x (L : List Word) : saysX L .count = [(L.length : Int)] ∧ thenX L .count = L := ⟨rfl, rfl⟩
theorem write_x {L : List Word} (h : ∀ w ∈ L, w.ok = true) : saysX L .write = ((textOf L).length : Int) :: zi (textOf L) ∧ thenX L .write = L := by
  refine ⟨?_, rfl⟩
  show ((lexiconWritten L).length : Int) :: ([] ++ SyRows.bytesTold (lexiconWritten L)) = _
  rw [bytes_told, written_is h, ← written_is h, bytesN_length]
  rfl
theorem drop_x (L : List Word) (i : Nat) : saysX L (.drop i) = [if L.length ≤ i then -4 else 0] ∧ thenX L (.drop i) = (if L.length ≤ i then L else L.eraseIdx i) := by
  unfold saysX thenX
  show LexNeutral.told (.drop i) (if L.length ≤ i then (L, says (-4)) else (L.eraseIdx i, says 0)).2 = _ ∧ (if L.length ≤ i then (L, says (-4)) else (L.eraseIdx i, says 0)).1 = _
  by_cases h : L.length ≤ i
  · rw [if_pos h, if_pos h, if_pos h]
    exact ⟨rfl, rfl⟩
  · rw [if_neg h, if_neg h, if_neg h]
    exact ⟨rfl, rfl⟩
theorem put_x {L : List Word} (hL : Lex L) (x y c : Nat) (r t : Text) :
    saysX L (.put x y c r t) = [if (⟨r, t, x, y, c⟩ : Word).ok = false then -3 else if 128 ≤ (L.filter fun q => !q.same ⟨r, t, x, y, c⟩).length then -6 else (((L.filter fun q => !q.same ⟨r, t, x, y, c⟩).filter fun q => q.before ⟨r, t, x, y, c⟩).length : Int)] ∧
    thenX L (.put x y c r t) = (if (⟨r, t, x, y, c⟩ : Word).ok = false then L else if 128 ≤ (L.filter fun q => !q.same ⟨r, t, x, y, c⟩).length then L else putP L ⟨r, t, x, y, c⟩) := by
  generalize hw : (⟨r, t, x, y, c⟩ : Word) = w
  have e : SyC.step L (.put x y c r t) = (if w.ok = false then (L, says (-3)) else if WORDS < (put L w).length then (L, says (-6)) else (put L w, SyC.orNone (numberOfWord (put L w) w.reading w.text))) := by
    rw [← hw]; rfl
  unfold saysX thenX
  rw [e]
  by_cases h1 : w.ok = false
  · rw [if_pos h1, if_pos h1, if_pos h1]
    exact ⟨rfl, rfl⟩
  · rw [if_neg h1, if_neg h1, if_neg h1, put_length]
    by_cases h2 : 128 ≤ (L.filter fun q => !q.same w).length
    · rw [if_pos (show WORDS < _ by unfold WORDS; omega), if_pos h2, if_pos h2]
      exact ⟨rfl, rfl⟩
    · rw [if_neg (show ¬ WORDS < _ by unfold WORDS; omega), if_neg h2, if_neg h2, put_number hL w, putP_is hL w]
      exact ⟨rfl, rfl⟩
theorem read_err {L : List Word} {b : Bytes} {i k : Nat} (hb : b.length ≤ 65536) (h : readLines 0 (linesOf (bytesN b)) [] = .error (i, k)) : saysX L (.read b) = [-2, (i : Int), (k : Int)] ∧ thenX L (.read b) = L := by
  have t := read_is b
  rw [h] at t
  have e : SyC.step L (.read b) = (match readWords b with
    | .error (i, k) => (L, tells (-2) (Sy.ints [i, k]))
    | .ok M => (M, says (M.length : Int))) := by
    show (if SyC.BYTES < b.length then _ else _) = _
    rw [if_neg (show ¬ SyC.BYTES < b.length by unfold SyC.BYTES; omega)]
    rfl
  unfold saysX thenX
  rw [e]
  cases q : readWords b with
  | error f =>
    rw [q] at t
    have t' : (i, k) = f := t
    subst t'
    exact ⟨rfl, rfl⟩
  | ok M =>
    rw [q] at t
    exact t.elim
theorem read_ok {L : List Word} {b : Bytes} {ws : List Word} (hb : b.length ≤ 65536) (h : readLines 0 (linesOf (bytesN b)) [] = .ok ws) :
    (thenX L (.read b)).Perm ws ∧ ((thenX L (.read b)).Pairwise fun a b => b.before a = false) ∧ saysX L (.read b) = [(ws.length : Int)] ∧ Lex (thenX L (.read b)) := by
  have t := read_is b
  rw [h] at t
  have e : SyC.step L (.read b) = (match readWords b with
    | .error (i, k) => (L, tells (-2) (Sy.ints [i, k]))
    | .ok M => (M, says (M.length : Int))) := by
    show (if SyC.BYTES < b.length then _ else _) = _
    rw [if_neg (show ¬ SyC.BYTES < b.length by unfold SyC.BYTES; omega)]
    rfl
  unfold saysX thenX
  rw [e]
  cases q : readWords b with
  | error f =>
    rw [q] at t
    exact t.elim
  | ok M =>
    rw [q] at t
    have t' : Both ws M := t
    refine ⟨t'.perm, t'.lex.order.imp fun {a b} h => wbef_asym h, ?_, t'.lex⟩
    show [(M.length : Int)] = [(ws.length : Int)]
    rw [t'.perm.length_eq]
/-- the lexicon stays what it is -/
theorem then_lex {L : List Word} (hL : Lex L) (x : SyC.Call) (hx : ∀ b, x = .read b → b.length ≤ 65536) : Lex (thenX L x) := by
  cases x with
  | begin_ => exact Lex.nil
  | read b =>
    have hb := hx b rfl
    cases h : readLines 0 (linesOf (bytesN b)) [] with
    | error f =>
      rw [(read_err (L := L) (i := f.1) (k := f.2) hb h).2]
      exact hL
    | ok ws => exact (read_ok hb h).2.2.2
  | put x y c r t =>
    rw [(put_x hL x y c r t).2]
    split
    · exact hL
    · rename_i h1
      split
      · exact hL
      · rename_i h2
        rw [← putP_is hL]
        exact put_lex hL (by simpa using h1) (by omega)
  | drop i =>
    rw [(drop_x L i).2]
    split
    · exact hL
    · exact drop_lex hL i
  | write => exact hL
  | count => exact hL
  | get i => exact hL
  | number r t => exact hL
  | find r => exact hL
  | begins r => exact hL
  | goes r => exact hL
  | likely r i => exact hL
end So
/-! Mathematics: the calls as one list of numbers. -/
namespace So
open Sy
theorem zi_length (l : List Nat) : (zi l).length = l.length := List.length_map ..
theorem zi_take (l : List Nat) (n : Nat) : (zi l).take n = zi (l.take n) := (List.map_take ..).symm
theorem zi_drop (l : List Nat) (n : Nat) : (zi l).drop n = zi (l.drop n) := (List.map_drop ..).symm
/-- a row with its length ahead -/
def rowN : List Nat → Option (List Nat × List Nat)
  | [] => none
  | n :: r => if n ≤ r.length then some (r.take n, r.drop n) else none
theorem row_is (l : List Nat) : PyFlat.row (zi l) = (rowN l).map fun q => (zi q.1, zi q.2) := by
  cases l with
  | nil => rfl
  | cons n r =>
    show (if 0 ≤ (n : Int) ∧ ((n : Int)).toNat ≤ (zi r).length then some ((zi r).take (n : Int).toNat, (zi r).drop (n : Int).toNat) else none) = (if n ≤ r.length then some (r.take n, r.drop n) else none).map fun q => (zi q.1, zi q.2)
    rw [Int.toNat_natCast, zi_length, zi_take, zi_drop]
    by_cases h : n ≤ r.length
    · rw [if_pos ⟨by omega, h⟩, if_pos h]; rfl
    · rw [if_neg (fun z => h z.2), if_neg h]; rfl
/-- one call at the front -/
def callN : List Nat → Option (SyC.Call × List Nat)
  | [] => none
  | p :: r =>
    if p = 1 then some (.begin_, r) else
    if p = 2 then (rowN r).map fun q => (.read (q.1.map UInt8.ofNat), q.2) else
    if p = 3 then some (.write, r) else
    if p = 4 then some (.count, r) else
    if p = 5 then (match r with
      | x :: y :: c :: r => (rowN r).bind fun q => (rowN q.2).map fun u => (.put x y c q.1 u.1, u.2)
      | _ => none) else
    if p = 6 then (match r with
      | i :: r => some (.drop i, r)
      | _ => none) else
    if p = 7 then (match r with
      | i :: r => some (.get i, r)
      | _ => none) else
    if p = 8 then (rowN r).bind fun q => (rowN q.2).map fun u => (.number q.1 u.1, u.2) else
    if p = 9 then (rowN r).map fun q => (.find q.1, q.2) else
    if p = 10 then (rowN r).map fun q => (.begins q.1, q.2) else
    if p = 11 then (rowN r).map fun q => (.goes q.1, q.2) else
    if p = 12 then (match r with
      | i :: r => (rowN r).map fun q => (.likely q.1 i, q.2)
      | _ => none) else none
theorem nats_is (r : List Nat) : SyRows.nats? (zi r) = some r := by
  unfold SyRows.nats?
  have h : (zi r).all (fun (n : Int) => decide (0 ≤ n)) = true := by
    rw [List.all_eq_true]
    intro x hx
    obtain ⟨n, _, rfl⟩ := List.mem_map.mp hx
    simp
  rw [if_pos h]
  congr 1
  show (r.map fun (n : Nat) => (n : Int)).map Int.toNat = r
  rw [List.map_map]
  have : (Int.toNat ∘ fun (n : Nat) => (n : Int)) = id := by
    funext n
    simp
  rw [this, List.map_id]
theorem nat_is (n : Nat) : SyRows.nat? (n : Int) = some n := by
  unfold SyRows.nat?
  rw [if_pos (by omega), Int.toNat_natCast]
theorem text_is {t : List Nat} (h : ∀ x ∈ t, x < 256) : SyRows.text? (zi t) = some (t.map UInt8.ofNat) := by
  unfold SyRows.text?
  have hb : NeutralIO.bytes (zi t) = true := by
    unfold NeutralIO.bytes
    rw [List.all_eq_true]
    intro x hx
    obtain ⟨n, hn, rfl⟩ := List.mem_map.mp hx
    have := h n hn
    simp
    omega
  rw [if_pos hb]
  congr 1
  show (t.map fun (n : Nat) => (n : Int)).map (fun (n : Int) => UInt8.ofNat n.toNat) = _
  rw [List.map_map]
  rfl
theorem bytesN_ofNat {t : List Nat} (h : ∀ x ∈ t, x < 256) : bytesN (t.map UInt8.ofNat) = t := map_ofNat_toNat h
/-- what is asked of a call's row of bytes -/
def CallOk : SyC.Call → List Nat → Prop
  | .read b, l => b.length < l.length
  | _, _ => True
theorem call_step {l : List Nat} {c : List (List Int)} {t : List Int} (h : PyFlat.call PyWqaibk.shape (zi l) = some (c, t)) (ha : LexNeutral.asked1 (PyWqaibk.whole c) = true) :
    ∃ x l', callN l = some (x, l') ∧ t = zi l' ∧ LexNeutral.callOf (PyWqaibk.whole c) = some x := by
  cases l with
  | nil => cases h
  | cons p r =>
    have h' : (match PyWqaibk.shape (p : Int) with
      | none => none
      | some (n, k) => if (zi r).length < n then none else match PyFlat.rows k ((zi r).drop n) with
        | none => none
        | some (xs, t) => some (((p : Int) :: (zi r).take n) :: xs, t)) = some (c, t) := h
    have sh : ∀ j : Nat, ((p : Int) = (j : Int)) ↔ p = j := fun j => by omega
    have s1 := sh 1; have s2 := sh 2; have s3 := sh 3; have s4 := sh 4; have s5 := sh 5; have s6 := sh 6; have s7 := sh 7; have s8 := sh 8; have s9 := sh 9; have s10 := sh 10; have s11 := sh 11; have s12 := sh 12
    have one : ∀ (n : Nat) (xs : List (List Int)) (u : List Int) (q : List Nat), PyFlat.rows 1 (zi q) = some (xs, u) → ∃ a b, rowN q = some (a, b) ∧ xs = [zi a] ∧ u = zi b := by
      intro n xs u q hq
      have hq' : (match PyFlat.row (zi q) with
        | none => none
        | some (x, s) => match PyFlat.rows 0 s with
          | none => none
          | some (xs, t) => some (x :: xs, t)) = some (xs, u) := hq
      rw [row_is] at hq'
      cases e : rowN q with
      | none => rw [e] at hq'; cases hq'
      | some ab =>
        rw [e] at hq'
        have hq2 : some ([zi ab.1], zi ab.2) = some (xs, u) := hq'
        cases hq2
        exact ⟨ab.1, ab.2, rfl, rfl, rfl⟩
    have two : ∀ (xs : List (List Int)) (u : List Int) (q : List Nat), PyFlat.rows 2 (zi q) = some (xs, u) → ∃ a b a2 b2, rowN q = some (a, b) ∧ rowN b = some (a2, b2) ∧ xs = [zi a, zi a2] ∧ u = zi b2 := by
      intro xs u q hq
      have hq' : (match PyFlat.row (zi q) with
        | none => none
        | some (x, s) => match PyFlat.rows 1 s with
          | none => none
          | some (xs, t) => some (x :: xs, t)) = some (xs, u) := hq
      rw [row_is] at hq'
      cases e : rowN q with
      | none => rw [e] at hq'; cases hq'
      | some ab =>
        rw [e] at hq'
        have hq2 : (match PyFlat.rows 1 (zi ab.2) with
          | none => none
          | some (xs, t) => some (zi ab.1 :: xs, t)) = some (xs, u) := hq'
        cases e2 : PyFlat.rows 1 (zi ab.2) with
        | none => rw [e2] at hq2; cases hq2
        | some xt =>
          rw [e2] at hq2
          obtain ⟨a2, b2, u1, u2, u3⟩ := one 0 xt.1 xt.2 ab.2 e2
          have hq3 : some (zi ab.1 :: xt.1, xt.2) = some (xs, u) := hq2
          cases hq3
          exact ⟨ab.1, ab.2, a2, b2, rfl, u1, by rw [u2], u3⟩
    by_cases c1 : p = 1
    · subst c1
      have hh : some ([[(1 : Int)]], zi r) = some (c, t) := h'
      cases hh
      exact ⟨.begin_, r, rfl, rfl, rfl⟩
    by_cases c2 : p = 2
    · subst c2
      have hh : (match PyFlat.rows 1 (zi r) with
        | none => none
        | some (xs, t) => some ([(2 : Int)] :: xs, t)) = some (c, t) := h'
      cases e : PyFlat.rows 1 (zi r) with
      | none => rw [e] at hh; cases hh
      | some xt =>
        rw [e] at hh
        obtain ⟨a, b, u1, u2, u3⟩ := one 0 xt.1 xt.2 r e
        have hh2 : some ([(2 : Int)] :: xt.1, xt.2) = some (c, t) := hh
        cases hh2
        rw [u2] at ha ⊢
        have hby : ∀ x ∈ a, x < 256 := by
          have ha' : (zi a).all (fun (z : Int) => decide (0 ≤ z) && decide (z ≤ 255)) = true := ha
          rw [List.all_eq_true] at ha'
          intro x hx
          have := ha' (x : Int) (List.mem_map.mpr ⟨x, hx, rfl⟩)
          simp at this
          omega
        refine ⟨.read (a.map UInt8.ofNat), b, ?_, u3, ?_⟩
        · show (rowN r).map _ = _
          rw [u1]; rfl
        · show (do return SyC.Call.read (← SyRows.text? (zi a))) = _
          rw [text_is hby]; rfl
    by_cases c3 : p = 3
    · subst c3
      have hh : some ([[(3 : Int)]], zi r) = some (c, t) := h'
      cases hh
      exact ⟨.write, r, rfl, rfl, rfl⟩
    by_cases c4 : p = 4
    · subst c4
      have hh : some ([[(4 : Int)]], zi r) = some (c, t) := h'
      cases hh
      exact ⟨.count, r, rfl, rfl, rfl⟩
    by_cases c5 : p = 5
    · subst c5
      match r, h' with
      | [], h' => cases h'
      | [_], h' => cases h'
      | [_, _], h' => cases h'
      | x :: y :: z :: r, h' =>
        have hh : (if (zi r).length + 3 < 3 then none else match PyFlat.rows 2 (zi r) with
          | none => none
          | some (xs, t) => some ([(5 : Int), (x : Int), (y : Int), (z : Int)] :: xs, t)) = some (c, t) := h'
        rw [if_neg (by omega)] at hh
        cases e : PyFlat.rows 2 (zi r) with
        | none => rw [e] at hh; cases hh
        | some xt =>
          rw [e] at hh
          obtain ⟨a, b, a2, b2, u1, u2, u3, u4⟩ := two xt.1 xt.2 r e
          have hh2 : some ([(5 : Int), (x : Int), (y : Int), (z : Int)] :: xt.1, xt.2) = some (c, t) := hh
          cases hh2
          rw [u3]
          refine ⟨.put x y z a a2, b2, ?_, u4, ?_⟩
          · show (rowN r).bind _ = _
            rw [u1]
            show (rowN b).map _ = _
            rw [u2]; rfl
          · show (do return SyC.Call.put (← SyRows.nat? (x : Int)) (← SyRows.nat? (y : Int)) (← SyRows.nat? (z : Int)) (← SyRows.nats? (zi a)) (← SyRows.nats? (zi a2))) = _
            rw [nat_is, nat_is, nat_is, nats_is, nats_is]; rfl
    by_cases c6 : p = 6
    · subst c6
      match r, h' with
      | [], h' => cases h'
      | i :: r, h' =>
        have hh : (if (zi r).length + 1 < 1 then none else some ([[(6 : Int), (i : Int)]], zi r)) = some (c, t) := h'
        rw [if_neg (by omega)] at hh
        cases hh
        refine ⟨.drop i, r, rfl, rfl, ?_⟩
        show (do return SyC.Call.drop (← SyRows.nat? (i : Int))) = _
        rw [nat_is]; rfl
    by_cases c7 : p = 7
    · subst c7
      match r, h' with
      | [], h' => cases h'
      | i :: r, h' =>
        have hh : (if (zi r).length + 1 < 1 then none else some ([[(7 : Int), (i : Int)]], zi r)) = some (c, t) := h'
        rw [if_neg (by omega)] at hh
        cases hh
        refine ⟨.get i, r, rfl, rfl, ?_⟩
        show (do return SyC.Call.get (← SyRows.nat? (i : Int))) = _
        rw [nat_is]; rfl
    by_cases c8 : p = 8
    · subst c8
      have hh : (match PyFlat.rows 2 (zi r) with
        | none => none
        | some (xs, t) => some ([(8 : Int)] :: xs, t)) = some (c, t) := h'
      cases e : PyFlat.rows 2 (zi r) with
      | none => rw [e] at hh; cases hh
      | some xt =>
        rw [e] at hh
        obtain ⟨a, b, a2, b2, u1, u2, u3, u4⟩ := two xt.1 xt.2 r e
        have hh2 : some ([(8 : Int)] :: xt.1, xt.2) = some (c, t) := hh
        cases hh2
        rw [u3]
        refine ⟨.number a a2, b2, ?_, u4, ?_⟩
        · show (rowN r).bind _ = _
          rw [u1]
          show (rowN b).map _ = _
          rw [u2]; rfl
        · show (do return SyC.Call.number (← SyRows.nats? (zi a)) (← SyRows.nats? (zi a2))) = _
          rw [nats_is, nats_is]; rfl
    by_cases c9 : p = 9
    · subst c9
      have hh : (match PyFlat.rows 1 (zi r) with
        | none => none
        | some (xs, t) => some ([(9 : Int)] :: xs, t)) = some (c, t) := h'
      cases e : PyFlat.rows 1 (zi r) with
      | none => rw [e] at hh; cases hh
      | some xt =>
        rw [e] at hh
        obtain ⟨a, b, u1, u2, u3⟩ := one 0 xt.1 xt.2 r e
        have hh2 : some ([(9 : Int)] :: xt.1, xt.2) = some (c, t) := hh
        cases hh2
        rw [u2]
        refine ⟨.find a, b, ?_, u3, ?_⟩
        · show (rowN r).map _ = _
          rw [u1]; rfl
        · show (do return SyC.Call.find (← SyRows.nats? (zi a))) = _
          rw [nats_is]; rfl
    by_cases c10 : p = 10
    · subst c10
      have hh : (match PyFlat.rows 1 (zi r) with
        | none => none
        | some (xs, t) => some ([(10 : Int)] :: xs, t)) = some (c, t) := h'
      cases e : PyFlat.rows 1 (zi r) with
      | none => rw [e] at hh; cases hh
      | some xt =>
        rw [e] at hh
        obtain ⟨a, b, u1, u2, u3⟩ := one 0 xt.1 xt.2 r e
        have hh2 : some ([(10 : Int)] :: xt.1, xt.2) = some (c, t) := hh
        cases hh2
        rw [u2]
        refine ⟨.begins a, b, ?_, u3, ?_⟩
        · show (rowN r).map _ = _
          rw [u1]; rfl
        · show (do return SyC.Call.begins (← SyRows.nats? (zi a))) = _
          rw [nats_is]; rfl
    by_cases c11 : p = 11
    · subst c11
      have hh : (match PyFlat.rows 1 (zi r) with
        | none => none
        | some (xs, t) => some ([(11 : Int)] :: xs, t)) = some (c, t) := h'
      cases e : PyFlat.rows 1 (zi r) with
      | none => rw [e] at hh; cases hh
      | some xt =>
        rw [e] at hh
        obtain ⟨a, b, u1, u2, u3⟩ := one 0 xt.1 xt.2 r e
        have hh2 : some ([(11 : Int)] :: xt.1, xt.2) = some (c, t) := hh
        cases hh2
        rw [u2]
        refine ⟨.goes a, b, ?_, u3, ?_⟩
        · show (rowN r).map _ = _
          rw [u1]; rfl
        · show (do return SyC.Call.goes (← SyRows.nats? (zi a))) = _
          rw [nats_is]; rfl
    by_cases c12 : p = 12
    · subst c12
      match r, h' with
      | [], h' => cases h'
      | i :: r, h' =>
        have hh : (if (zi r).length + 1 < 1 then none else match PyFlat.rows 1 (zi r) with
          | none => none
          | some (xs, t) => some ([(12 : Int), (i : Int)] :: xs, t)) = some (c, t) := h'
        rw [if_neg (by omega)] at hh
        cases e : PyFlat.rows 1 (zi r) with
        | none => rw [e] at hh; cases hh
        | some xt =>
          rw [e] at hh
          obtain ⟨a, b, u1, u2, u3⟩ := one 0 xt.1 xt.2 r e
          have hh2 : some ([(12 : Int), (i : Int)] :: xt.1, xt.2) = some (c, t) := hh
          cases hh2
          rw [u2]
          refine ⟨.likely a i, b, ?_, u3, ?_⟩
          · show (rowN r).map _ = _
            rw [u1]; rfl
          · show (do return SyC.Call.likely (← SyRows.nats? (zi a)) (← SyRows.nat? (i : Int))) = _
            rw [nats_is, nat_is]; rfl
    · exfalso
      have hn : PyWqaibk.shape (p : Int) = none := by
        unfold PyWqaibk.shape
        rw [if_neg (by omega), if_neg (by omega), if_neg (by omega), if_neg (by omega), if_neg (by omega), if_neg (by omega), if_neg (by omega), if_neg (by omega), if_neg (by omega), if_neg (by omega), if_neg (by omega), if_neg (by omega)]
      rw [hn] at h'
      cases h'
/-- what is left to be told from a place on -/
structure Rest (L : List Word) (l : List Nat) (ans : List Int) : Prop where
  ex : ∃ f cs, PyFlat.calls PyWqaibk.shape f (zi l) = some cs ∧ LexNeutral.asked (cs.map PyWqaibk.whole) = true ∧ ans = PyFlat.told (PyFlat.played LexNeutral.step L (cs.map PyWqaibk.whole))
theorem Rest.nil {L : List Word} {ans : List Int} (h : Rest L [] ans) : ans = [] := by
  obtain ⟨f, cs, h1, _, h3⟩ := h.ex
  have e : cs = [] := by
    cases f with
    | zero => exact (Option.some.inj h1).symm
    | succ f => exact (Option.some.inj h1).symm
  rw [h3, e]
  rfl
theorem Rest.step {L : List Word} {l : List Nat} {ans : List Int} (h : Rest L l ans) (hne : l ≠ []) :
    ∃ x l' ans', callN l = some (x, l') ∧ ans = ((saysX L x).length : Int) :: saysX L x ++ ans' ∧ Rest (thenX L x) l' ans' := by
  obtain ⟨f, cs, h1, h2, h3⟩ := h.ex
  cases l with
  | nil => exact absurd rfl hne
  | cons p r =>
    cases f with
    | zero => cases h1
    | succ f =>
      have h1' : (match PyFlat.call PyWqaibk.shape (zi (p :: r)) with
        | none => none
        | some (c, t) => match PyFlat.calls PyWqaibk.shape f t with
          | none => none
          | some cs => some (c :: cs)) = some cs := h1
      cases e : PyFlat.call PyWqaibk.shape (zi (p :: r)) with
      | none => rw [e] at h1'; cases h1'
      | some ct =>
        rw [e] at h1'
        obtain ⟨c, t⟩ := ct
        have h1'' : (match PyFlat.calls PyWqaibk.shape f t with
          | none => none
          | some cs => some (c :: cs)) = some cs := h1'
        cases e2 : PyFlat.calls PyWqaibk.shape f t with
        | none => rw [e2] at h1''; cases h1''
        | some cs' =>
          rw [e2] at h1''
          have ec : c :: cs' = cs := Option.some.inj h1''
          subst ec
          have h2' : (LexNeutral.asked1 (PyWqaibk.whole c) && LexNeutral.asked (cs'.map PyWqaibk.whole)) = true := h2
          rw [Bool.and_eq_true] at h2'
          obtain ⟨x, l', k1, k2, k3⟩ := call_step e h2'.1
          have est : LexNeutral.step L (PyWqaibk.whole c) = (thenX L x, saysX L x) := by
            unfold LexNeutral.step
            rw [k3]
            rfl
          refine ⟨x, l', PyFlat.told (PyFlat.played LexNeutral.step (thenX L x) (cs'.map PyWqaibk.whole)), k1, ?_, ⟨f, cs', by rw [← k2]; exact e2, h2'.2, rfl⟩⟩
          rw [h3]
          show PyFlat.told ((LexNeutral.step L (PyWqaibk.whole c)).2 :: PyFlat.played LexNeutral.step (LexNeutral.step L (PyWqaibk.whole c)).1 (cs'.map PyWqaibk.whole)) = _
          rw [est]
          rfl
/-- the request that is asked -/
theorem Rest.start {cl : List Nat} (h : PyWqaibk.answers_asked (zi cl) = true) : Rest [] cl (PyWqaibk.answers (zi cl)) ∧ (PyWqaibk.answers (zi cl)).length ≤ 10000000 := by
  unfold PyWqaibk.answers_asked at h
  cases e : PyFlat.calls PyWqaibk.shape (zi cl).length (zi cl) with
  | none => rw [e] at h; cases h
  | some raw =>
    rw [e] at h
    have h' : (PyFlat.atMost 300 raw && PyInside.calls PyWqaibk.bound raw && LexNeutral.asked (raw.map PyWqaibk.whole) && PyFlat.short 10000000 (PyWqaibk.answers (zi cl))) = true := h
    simp only [Bool.and_eq_true] at h'
    refine ⟨⟨_, raw, e, h'.1.2, ?_⟩, by simpa [PyFlat.short] using h'.2⟩
    unfold PyWqaibk.answers PyWqaibk.calls
    rw [e]
    rfl
end So
namespace So
open Sy
/-- what is read is bytes -/
def BytesOk (l : List Nat) : Prop := ∀ r t s, l = 2 :: r → rowN r = some (t, s) → ∀ y ∈ t, y < 256
theorem call_bytes {l : List Nat} {c : List (List Int)} {t : List Int} (h : PyFlat.call PyWqaibk.shape (zi l) = some (c, t)) (ha : LexNeutral.asked1 (PyWqaibk.whole c) = true) : BytesOk l := by
  intro r u s hl hr
  subst hl
  have hh : (match PyFlat.rows 1 (zi r) with
    | none => none
    | some (xs, t) => some ([(2 : Int)] :: xs, t)) = some (c, t) := h
  have hrow := row_is r
  rw [hr] at hrow
  have e : PyFlat.rows 1 (zi r) = some ([zi u], zi s) := by
    show (match PyFlat.row (zi r) with
      | none => none
      | some (x, s) => match PyFlat.rows 0 s with
        | none => none
        | some (xs, t) => some (x :: xs, t)) = _
    rw [hrow]
    rfl
  rw [e] at hh
  have hh2 : some ([(2 : Int)] :: [zi u], zi s) = some (c, t) := hh
  cases hh2
  have ha' : (zi u).all (fun (z : Int) => decide (0 ≤ z) && decide (z ≤ 255)) = true := ha
  rw [List.all_eq_true] at ha'
  intro y hy
  have := ha' (y : Int) (List.mem_map.mpr ⟨y, hy, rfl⟩)
  simp at this
  omega
theorem Rest.bytes {L : List Word} {l : List Nat} {ans : List Int} (h : Rest L l ans) (hne : l ≠ []) : BytesOk l := by
  obtain ⟨f, cs, h1, h2, h3⟩ := h.ex
  cases l with
  | nil => exact absurd rfl hne
  | cons p r =>
    cases f with
    | zero => cases h1
    | succ f =>
      have h1' : (match PyFlat.call PyWqaibk.shape (zi (p :: r)) with
        | none => none
        | some (c, t) => match PyFlat.calls PyWqaibk.shape f t with
          | none => none
          | some cs => some (c :: cs)) = some cs := h1
      cases e : PyFlat.call PyWqaibk.shape (zi (p :: r)) with
      | none => rw [e] at h1'; cases h1'
      | some ct =>
        rw [e] at h1'
        obtain ⟨c, t⟩ := ct
        have h1'' : (match PyFlat.calls PyWqaibk.shape f t with
          | none => none
          | some cs => some (c :: cs)) = some cs := h1'
        cases e2 : PyFlat.calls PyWqaibk.shape f t with
        | none => rw [e2] at h1''; cases h1''
        | some cs' =>
          rw [e2] at h1''
          have ec : c :: cs' = cs := Option.some.inj h1''
          subst ec
          have h2' : (LexNeutral.asked1 (PyWqaibk.whole c) && LexNeutral.asked (cs'.map PyWqaibk.whole)) = true := h2
          rw [Bool.and_eq_true] at h2'
          exact call_bytes e h2'.1
theorem rowN_less {l r s : List Nat} (h : rowN l = some (r, s)) : r.length ≤ l.length ∧ s.length < l.length := by
  cases l with
  | nil => cases h
  | cons n t =>
    have h' : (if n ≤ t.length then some (t.take n, t.drop n) else none) = some (r, s) := h
    split at h'
    · cases h'
      rw [List.length_take, List.length_drop, List.length_cons]
      omega
    · cases h'
theorem map_some2 {α β : Type} {o : Option α} {f : α → β} {b : β} (h : o.map f = some b) : ∃ a, o = some a ∧ f a = b := Option.map_eq_some_iff.mp h
/-- each call takes one number at least -/
theorem callN_less {l l' : List Nat} {x : SyC.Call} (h : callN l = some (x, l')) : l'.length < l.length ∧ ∀ b, x = .read b → b.length ≤ l.length := by
  cases l with
  | nil => cases h
  | cons p r =>
    rw [List.length_cons]
    unfold callN at h
    dsimp only at h
    by_cases c1 : p = 1
    · rw [if_pos c1] at h
      cases h
      exact ⟨by (try dsimp only) <;> omega, fun b hb => by cases hb⟩
    rw [if_neg c1] at h
    by_cases c2 : p = 2
    · rw [if_pos c2] at h
      obtain ⟨⟨a, s⟩, u1, u2⟩ := map_some2 h
      cases u2
      have := rowN_less u1
      exact ⟨by (dsimp only; omega), fun b hb => by cases hb; rw [List.length_map]; dsimp only; omega⟩
    rw [if_neg c2] at h
    by_cases c3 : p = 3
    · rw [if_pos c3] at h
      cases h
      exact ⟨by (try dsimp only) <;> omega, fun b hb => by cases hb⟩
    rw [if_neg c3] at h
    by_cases c4 : p = 4
    · rw [if_pos c4] at h
      cases h
      exact ⟨by (try dsimp only) <;> omega, fun b hb => by cases hb⟩
    rw [if_neg c4] at h
    by_cases c5 : p = 5
    · rw [if_pos c5] at h
      match r, h with
      | [], h => cases h
      | [_], h => cases h
      | [_, _], h => cases h
      | x :: y :: c :: r, h =>
        have h' : ((rowN r).bind fun q => (rowN q.2).map fun u => (SyC.Call.put x y c q.1 u.1, u.2)) = some (_, l') := h
        obtain ⟨⟨a, s⟩, u1, u2⟩ := Option.bind_eq_some_iff.mp h'
        obtain ⟨⟨a2, s2⟩, u3, u4⟩ := map_some2 u2
        cases u4
        have q1 := rowN_less u1
        have q2 := rowN_less u3
        dsimp only at q2
        simp only [List.length_cons]
        exact ⟨by (try dsimp only) <;> omega, fun b hb => by cases hb⟩
    rw [if_neg c5] at h
    by_cases c6 : p = 6
    · rw [if_pos c6] at h
      match r, h with
      | [], h => cases h
      | i :: r, h =>
        cases h
        simp only [List.length_cons]
        exact ⟨by (try dsimp only) <;> omega, fun b hb => by cases hb⟩
    rw [if_neg c6] at h
    by_cases c7 : p = 7
    · rw [if_pos c7] at h
      match r, h with
      | [], h => cases h
      | i :: r, h =>
        cases h
        simp only [List.length_cons]
        exact ⟨by (try dsimp only) <;> omega, fun b hb => by cases hb⟩
    rw [if_neg c7] at h
    by_cases c8 : p = 8
    · rw [if_pos c8] at h
      obtain ⟨⟨a, s⟩, u1, u2⟩ := Option.bind_eq_some_iff.mp h
      obtain ⟨⟨a2, s2⟩, u3, u4⟩ := map_some2 u2
      cases u4
      have q1 := rowN_less u1
      have q2 := rowN_less u3
      dsimp only at q2
      exact ⟨by (try dsimp only) <;> omega, fun b hb => by cases hb⟩
    rw [if_neg c8] at h
    by_cases c9 : p = 9
    · rw [if_pos c9] at h
      obtain ⟨⟨a, s⟩, u1, u2⟩ := map_some2 h
      cases u2
      have := rowN_less u1
      exact ⟨by (try dsimp only) <;> omega, fun b hb => by cases hb⟩
    rw [if_neg c9] at h
    by_cases c10 : p = 10
    · rw [if_pos c10] at h
      obtain ⟨⟨a, s⟩, u1, u2⟩ := map_some2 h
      cases u2
      have := rowN_less u1
      exact ⟨by (try dsimp only) <;> omega, fun b hb => by cases hb⟩
    rw [if_neg c10] at h
    by_cases c11 : p = 11
    · rw [if_pos c11] at h
      obtain ⟨⟨a, s⟩, u1, u2⟩ := map_some2 h
      cases u2
      have := rowN_less u1
      exact ⟨by (try dsimp only) <;> omega, fun b hb => by cases hb⟩
    rw [if_neg c11] at h
    by_cases c12 : p = 12
    · rw [if_pos c12] at h
      match r, h with
      | [], h => cases h
      | i :: r, h =>
        have h' : ((rowN r).map fun q => (SyC.Call.likely q.1 i, q.2)) = some (_, l') := h
        obtain ⟨⟨a, s⟩, u1, u2⟩ := map_some2 h'
        cases u2
        have := rowN_less u1
        simp only [List.length_cons]
        exact ⟨by (try dsimp only) <;> omega, fun b hb => by cases hb⟩
    rw [if_neg c12] at h
    cases h
end So
/-! Mathematics: what is asked of a lexicon. -/
namespace So
open Sy
/-! ### what the calls of the second stage answer, as told -/
def rowFault (r : Text) : Option Int := if 64 < r.length then some (-1) else if isText r = false then some (-3) else none
def twoFault (r t : Text) : Option Int := if 64 < r.length ∨ 64 < t.length then some (-1) else if isText r = false ∨ isText t = false then some (-3) else none
def wordTold (w : Word) : List Int := 0 :: (w.left : Int) :: (w.right : Int) :: (w.cost : Int) :: ((w.reading.length : Int) :: zi w.reading ++ ((w.text.length : Int) :: zi w.text))
theorem get_some {L : List Word} {i : Nat} {w : Word} (h : L[i]? = some w) : saysX L (.get i) = wordTold w := by
  show LexNeutral.told (.get i) (match L[i]? with
    | some w => SyC.told w
    | none => says (-4)) = _
  rw [h]
  rfl
theorem get_none {L : List Word} {i : Nat} (h : L.length ≤ i) : saysX L (.get i) = [-4] := by
  show LexNeutral.told (.get i) (match L[i]? with
    | some w => SyC.told w
    | none => says (-4)) = _
  rw [List.getElem?_eq_none h]
  rfl
theorem ofRow_bad {r : Text} {z : Int} {a : Ans} (h : rowFault r = some z) : SyC.ofRow r a = says z := by
  unfold rowFault at h
  unfold SyC.ofRow
  by_cases c1 : 64 < r.length
  · rw [if_pos c1] at h
    rw [if_pos (show SyC.ROW < r.length from c1)]
    cases h
    rfl
  · rw [if_neg c1] at h
    rw [if_neg (show ¬ SyC.ROW < r.length from c1)]
    by_cases c2 : isText r = false
    · rw [if_pos c2] at h
      rw [if_pos c2]
      cases h
      rfl
    · rw [if_neg c2] at h
      cases h
theorem ofRow_good {r : Text} {a : Ans} (h : rowFault r = none) : SyC.ofRow r a = a := by
  unfold rowFault at h
  unfold SyC.ofRow
  by_cases c1 : 64 < r.length
  · rw [if_pos c1] at h
    cases h
  · rw [if_neg c1] at h
    rw [if_neg (show ¬ SyC.ROW < r.length from c1)]
    by_cases c2 : isText r = false
    · rw [if_pos c2] at h
      cases h
    · rw [if_neg c2]
theorem find_bad {L : List Word} {r : Text} {z : Int} (h : rowFault r = some z) : saysX L (.find r) = [z] := by
  show LexNeutral.told (.find r) (SyC.ofRow r _) = _
  rw [ofRow_bad h]
  rfl
theorem find_good {L : List Word} {r : Text} (h : rowFault r = none) : saysX L (.find r) = [(manyOf L r : Int), (firstOf L r : Int)] := by
  show LexNeutral.told (.find r) (SyC.ofRow r _) = _
  rw [ofRow_good h]
  rfl
theorem begins_bad {L : List Word} {r : Text} {z : Int} (h : rowFault r = some z) : saysX L (.begins r) = [z] := by
  show LexNeutral.told (.begins r) (SyC.ofRow r _) = _
  rw [ofRow_bad h]
  rfl
theorem begins_good {L : List Word} {r : Text} (h : rowFault r = none) : saysX L (.begins r) = ((beginsHere L r).length : Int) :: zi (beginsHere L r).flatten := by
  show LexNeutral.told (.begins r) (SyC.ofRow r _) = _
  rw [ofRow_good h]
  rfl
theorem goes_bad {L : List Word} {r : Text} {z : Int} (h : rowFault r = some z) : saysX L (.goes r) = [z] := by
  show LexNeutral.told (.goes r) (SyC.ofRow r _) = _
  rw [ofRow_bad h]
  rfl
theorem goes_good {L : List Word} {r : Text} (h : rowFault r = none) : saysX L (.goes r) = [(goesOn L r : Int), (firstOf L r : Int)] := by
  show LexNeutral.told (.goes r) (SyC.ofRow r _) = _
  rw [ofRow_good h]
  rfl
theorem likely_bad {L : List Word} {r : Text} {i : Nat} {z : Int} (h : rowFault r = some z) : saysX L (.likely r i) = [z] := by
  show LexNeutral.told (.likely r i) (SyC.ofRow r _) = _
  rw [ofRow_bad h]
  rfl
theorem likely_some {L : List Word} {r : Text} {i n : Nat} (h : rowFault r = none) (e : (likeliest L r)[i]? = some n) : saysX L (.likely r i) = [(n : Int)] := by
  show LexNeutral.told (.likely r i) (SyC.ofRow r (SyC.orNone ((likeliest L r)[i]?))) = _
  rw [ofRow_good h, e]
  rfl
theorem likely_none {L : List Word} {r : Text} {i : Nat} (h : rowFault r = none) (e : (likeliest L r).length ≤ i) : saysX L (.likely r i) = [-5] := by
  show LexNeutral.told (.likely r i) (SyC.ofRow r (SyC.orNone ((likeliest L r)[i]?))) = _
  rw [ofRow_good h, List.getElem?_eq_none e]
  rfl
theorem number_is (L : List Word) (r t : Text) : saysX L (.number r t) = LexNeutral.told (.number r t) (if SyC.ROW < t.length then says (-1) else SyC.ofRow r (if isText t = false then says (-3) else SyC.orNone (numberOfWord L r t))) := rfl
theorem number_bad {L : List Word} {r t : Text} {z : Int} (h : twoFault r t = some z) : saysX L (.number r t) = [z] := by
  rw [number_is]
  unfold twoFault at h
  by_cases c1 : 64 < r.length ∨ 64 < t.length
  · rw [if_pos c1] at h
    cases h
    by_cases c2 : 64 < t.length
    · rw [if_pos (show SyC.ROW < t.length from c2)]
      rfl
    · rw [if_neg (show ¬ SyC.ROW < t.length from c2), ofRow_bad (z := -1)]
      · rfl
      · unfold rowFault
        rw [if_pos (c1.resolve_right c2)]
  · rw [if_neg c1] at h
    rw [if_neg (show ¬ SyC.ROW < t.length from fun z => c1 (.inr z))]
    by_cases c2 : isText r = false ∨ isText t = false
    · rw [if_pos c2] at h
      cases h
      by_cases c3 : isText r = false
      · rw [ofRow_bad (z := -3)]
        · rfl
        · unfold rowFault
          rw [if_neg (fun z => c1 (.inl z)), if_pos c3]
      · rw [if_pos (c2.resolve_left c3)]
        unfold SyC.ofRow
        rw [if_neg (show ¬ SyC.ROW < r.length from fun z => c1 (.inl z)), if_neg c3]
        rfl
    · rw [if_neg c2] at h
      cases h
theorem number_good {L : List Word} {r t : Text} (h : twoFault r t = none) : saysX L (.number r t) = [match numberOfWord L r t with
    | some i => (i : Int)
    | none => -5] := by
  rw [number_is]
  unfold twoFault at h
  by_cases c1 : 64 < r.length ∨ 64 < t.length
  · rw [if_pos c1] at h
    cases h
  · rw [if_neg c1] at h
    by_cases c2 : isText r = false ∨ isText t = false
    · rw [if_pos c2] at h
      cases h
    · rw [if_neg (show ¬ SyC.ROW < t.length from fun z => c1 (.inr z)), if_neg (fun z => c2 (.inr z)), ofRow_good]
      · cases numberOfWord L r t <;> rfl
      · unfold rowFault
        rw [if_neg (fun z => c1 (.inl z)), if_neg (fun z => c2 (.inl z))]
end So
/-! Mathematics: where what is asked of a lexicon stands. -/
namespace So
open Sy
/-! ### lists in order: what comes first is a front -/
/-- a test that holds for a front only -/
theorem front_filter {α : Type} {p : α → Bool} : ∀ {L : List α}, L.Pairwise (fun a b => p b = true → p a = true) → L.filter p = L.take (L.filter p).length ∧ (∀ i (h : i < L.length), p L[i] = decide (i < (L.filter p).length))
  | [], _ => ⟨rfl, fun i h => by cases h⟩
  | a :: L, hp => by
    obtain ⟨h1, h2⟩ := List.pairwise_cons.mp hp
    obtain ⟨i1, i2⟩ := front_filter h2
    by_cases c : p a = true
    · rw [List.filter_cons, if_pos c, List.length_cons]
      refine ⟨by rw [List.take_succ_cons, ← i1], fun i h => ?_⟩
      cases i with
      | zero => simp [c]
      | succ i =>
        have hi : i < L.length := by simpa using h
        have := i2 i hi
        simp only [List.getElem_cons_succ, this]
        rw [decide_eq_decide]
        omega
    · have hn : L.filter p = [] := by
        rw [List.filter_eq_nil_iff]
        exact fun x hx z => c (h1 x hx z)
      rw [List.filter_cons, if_neg c, hn]
      refine ⟨rfl, fun i h => ?_⟩
      cases i with
      | zero => simpa using c
      | succ i =>
        have hi : i < L.length := by simpa using h
        have := i2 i hi
        rw [hn] at this
        simp only [List.getElem_cons_succ, this]
        simp
/-- how long the front is: by its end -/
theorem front_len {α : Type} {p : α → Bool} {L : List α} (hp : L.Pairwise (fun a b => p b = true → p a = true)) {n : Nat} (hn : n ≤ L.length) (h1 : ∀ i (h : i < L.length), i < n → p L[i] = true) (h2 : ∀ h : n < L.length, p L[n] = false) : (L.filter p).length = n := by
  obtain ⟨_, e⟩ := front_filter hp
  have le := List.length_filter_le p L
  rcases Nat.lt_trichotomy (L.filter p).length n with c | c | c
  · have hl : (L.filter p).length < L.length := by omega
    have a := h1 _ hl c
    rw [e _ hl] at a
    simp at a
  · exact c
  · have hl : n < L.length := by omega
    have a := h2 hl
    rw [e _ hl] at a
    simp at a
    omega
theorem front_while {α : Type} {p : α → Bool} {L : List α} (hp : L.Pairwise (fun a b => p b = true → p a = true)) : L.filter p = L.takeWhile p := by
  induction L with
  | nil => rfl
  | cons a L ih =>
    obtain ⟨h1, h2⟩ := List.pairwise_cons.mp hp
    by_cases c : p a = true
    · rw [List.filter_cons, if_pos c, List.takeWhile_cons, if_pos c, ih h2]
    · rw [List.filter_cons, if_neg c, List.takeWhile_cons, if_neg c, List.filter_eq_nil_iff]
      exact fun x hx z => c (h1 x hx z)
/-! ### rows -/
theorem bef_or {a b : Text} (h : before a b = false) : a = b ∨ before b a = true := by
  rcases bef_tri a b with z | z | z
  · rw [z] at h
    cases h
  · exact .inl z
  · exact .inr z
/-- readings of words in order do not fall -/
theorem read_le {a b : Word} (h : a.before b = true) : before b.reading a.reading = false := by
  rcases wbef_iff.mp h with z | z
  · exact bef_asym z
  · rw [z.1]
    exact bef_irr _
theorem bef_le {a b r : Text} (h : before b a = false) (hb : before b r = true) : before a r = true := by
  rcases bef_or h with z | z
  · rw [← z]
    exact hb
  · exact bef_trans z hb
theorem reading_front {L : List Word} (h : InOrder L) (r : Text) : L.Pairwise fun a b => (fun w : Word => before w.reading r) b = true → (fun w : Word => before w.reading r) a = true :=
  h.imp fun hab hb => bef_le (read_le hab) hb
/-- what the row is a beginning of -/
def beginsWith (r s : Text) : Bool := decide (s.take r.length = r)
theorem prefix_take (r s : Text) : r.isPrefixOf s = beginsWith r s := by
  unfold beginsWith
  induction r generalizing s with
  | nil => simp
  | cons a r ih =>
    cases s with
    | nil => simp
    | cons b s =>
      rw [List.isPrefixOf_cons_cons, ih s]
      by_cases c : a = b
      · subst c
        simp
      · have : (a == b) = false := by simpa using c
        rw [this, Bool.false_and]
        symm
        rw [decide_eq_false_iff_not]
        intro z
        exact c (List.cons.inj z).1.symm
/-- what goes on from a row is not before it -/
theorem prefix_not_before : ∀ {r s : Text}, r.isPrefixOf s = true → before s r = false
  | [], s, _ => by cases s <;> rfl
  | a :: r, [], h => by simp at h
  | a :: r, b :: s, h => by
    rw [List.isPrefixOf_cons_cons] at h
    simp only [Bool.and_eq_true, beq_iff_eq] at h
    obtain ⟨h1, h2⟩ := h
    subst h1
    show (decide (a < a) || (a == a && before s r)) = false
    rw [prefix_not_before h2]
    simp
/-- between a row and what goes on from it all goes on from it -/
theorem prefix_between : ∀ {r s t : Text}, before s r = false → before t s = false → r.isPrefixOf t = true → r.isPrefixOf s = true
  | [], s, t, _, _, _ => by simp
  | a :: r, s, [], _, _, h => by simp at h
  | a :: r, [], c :: t, h, _, _ => by cases h
  | a :: r, b :: s, c :: t, h1, h2, h3 => by
    rw [List.isPrefixOf_cons_cons] at h3 ⊢
    simp only [Bool.and_eq_true, beq_iff_eq] at h3 ⊢
    obtain ⟨h3, h4⟩ := h3
    subst h3
    have h1' : (decide (b < a) || (b == a && before s r)) = false := h1
    have h2' : (decide (a < b) || (a == b && before t s)) = false := h2
    simp only [Bool.or_eq_false_iff, decide_eq_false_iff_not, Bool.and_eq_false_iff, beq_eq_false_iff_ne] at h1' h2'
    have e : a = b := by omega
    subst e
    refine ⟨rfl, prefix_between (t := t) (h1'.2.resolve_left (fun z => z rfl)) (h2'.2.resolve_left (fun z => z rfl)) h4⟩
/-- words that go on stand one behind another, from the first -/
theorem goes_front {L : List Word} (h : InOrder L) (r : Text) : (L.drop (firstOf L r)).Pairwise fun a b => (fun w : Word => r.isPrefixOf w.reading) b = true → (fun w : Word => r.isPrefixOf w.reading) a = true := by
  have ff := (front_filter (reading_front h r)).2
  have hd : ∀ w ∈ L.drop (firstOf L r), before w.reading r = false := by
    intro w hw
    obtain ⟨i, hi, rfl⟩ := List.mem_iff_getElem.mp hw
    rw [List.getElem_drop]
    have hi' : firstOf L r + i < L.length := by rw [List.length_drop] at hi; omega
    have := ff (firstOf L r + i) hi'
    have e : decide (firstOf L r + i < firstOf L r) = false := by simp
    have e2 : (fun w : Word => before w.reading r) L[firstOf L r + i] = decide (firstOf L r + i < firstOf L r) := this
    rw [e] at e2
    exact e2
  have hp : (L.drop (firstOf L r)).Pairwise fun a b => a.before b = true := h.sublist (List.drop_sublist ..)
  exact hp.imp_of_mem fun {a b} ha hb hab hpre => prefix_between (hd a ha) (read_le hab) hpre
theorem goesOn_drop {L : List Word} (h : InOrder L) (r : Text) : goesOn L r = ((L.drop (firstOf L r)).filter fun w => r.isPrefixOf w.reading).length := by
  have ff := (front_filter (reading_front h r)).1
  unfold goesOn
  have e : L.filter (fun w : Word => r.isPrefixOf w.reading) = (L.take (firstOf L r)).filter (fun w : Word => r.isPrefixOf w.reading) ++ (L.drop (firstOf L r)).filter fun w : Word => r.isPrefixOf w.reading := by
    rw [← List.filter_append, List.take_append_drop]
  have e2 : (L.take (firstOf L r)).filter (fun w : Word => r.isPrefixOf w.reading) = [] := by
    rw [List.filter_eq_nil_iff]
    intro w hw
    have hw' : w ∈ L.filter fun w : Word => before w.reading r := by
      rw [ff]
      exact hw
    have hb := (List.mem_filter.mp hw').2
    intro z
    have := prefix_not_before z
    rw [hb] at this
    cases this
  rw [e, e2, List.nil_append]
theorem manyOf_goes {r s : Text} (h : s = r) : r.isPrefixOf s = true := by
  subst h
  induction s with
  | nil => rfl
  | cons a s ih => rw [List.isPrefixOf_cons_cons, ih]; simp
end So
/-! Mathematics: the likeliest. -/
namespace So
open Sy
/-- lists in a strict order with the same items are one list -/
theorem strict_unique {α : Type} {R : α → α → Prop} (as : ∀ a b, R a b → ¬ R b a) : ∀ {L M : List α}, L.Perm M → L.Pairwise R → M.Pairwise R → L = M
  | [], M, p, _, _ => (List.nil_perm.mp p).symm
  | a :: L, [], p, _, _ => by simp at p
  | a :: L, b :: M, p, h1, h2 => by
    have e : a = b := by
      have ha : a ∈ b :: M := p.mem_iff.mp List.mem_cons_self
      have hb : b ∈ a :: L := p.mem_iff.mpr List.mem_cons_self
      rcases List.mem_cons.mp ha with z | z
      · exact z
      · rcases List.mem_cons.mp hb with y | y
        · exact y.symm
        · exact absurd ((List.pairwise_cons.mp h1).1 b y) (as _ _ ((List.pairwise_cons.mp h2).1 a z))
    subst e
    rw [strict_unique as ((List.perm_cons a).mp p) (List.pairwise_cons.mp h1).2 (List.pairwise_cons.mp h2).2]
/-- cheaper, of one cost the one ahead -/
def Cheap (c : Nat → Nat) (i j : Nat) : Prop := c i < c j ∨ (c i = c j ∧ i < j)
theorem cheap_asym (c : Nat → Nat) (i j : Nat) (h : Cheap c i j) : ¬ Cheap c j i := by
  unfold Cheap at *
  omega
theorem putCheap_perm (L : List Word) (i : Nat) : ∀ l, (putCheap L i l).Perm (i :: l)
  | [] => List.Perm.refl _
  | j :: l => by
    show (if costAt L i ≤ costAt L j then i :: j :: l else j :: putCheap L i l).Perm _
    split
    · exact List.Perm.refl _
    · exact ((putCheap_perm L i l).cons j).trans (List.Perm.swap i j l)
theorem putCheap_sorted (L : List Word) (i : Nat) : ∀ {l : List Nat}, l.Pairwise (Cheap (costAt L)) → (∀ j ∈ l, i < j) → (putCheap L i l).Pairwise (Cheap (costAt L))
  | [], _, _ => List.pairwise_singleton ..
  | j :: l, h, hi => by
    obtain ⟨h1, h2⟩ := List.pairwise_cons.mp h
    show (if costAt L i ≤ costAt L j then i :: j :: l else j :: putCheap L i l).Pairwise _
    split
    · rename_i c
      refine List.pairwise_cons.mpr ⟨fun k hk => ?_, h⟩
      have hik := hi k hk
      rcases List.mem_cons.mp hk with z | z
      · subst z
        unfold Cheap
        omega
      · have := h1 k z
        unfold Cheap at *
        omega
    · rename_i c
      refine List.pairwise_cons.mpr ⟨fun k hk => ?_, putCheap_sorted L i h2 fun k hk => hi k (List.mem_cons_of_mem _ hk)⟩
      rcases List.mem_cons.mp ((putCheap_perm L i l).mem_iff.mp hk) with z | z
      · subst z
        exact .inl (by omega)
      · exact h1 k z
/-- the numbers of the words that go on, rising -/
def goers (L : List Word) (r : Text) : List Nat := (List.range L.length).filter fun (i : Nat) => match L[i]? with
  | some w => r.isPrefixOf w.reading
  | none => false
theorem goers_up (L : List Word) (r : Text) : (goers L r).Pairwise (· < ·) := List.pairwise_lt_range.filter _
theorem cheap_fold (L : List Word) : ∀ {l : List Nat}, l.Pairwise (· < ·) → (l.foldr (putCheap L) []).Perm l ∧ (l.foldr (putCheap L) []).Pairwise (Cheap (costAt L))
  | [], _ => ⟨List.Perm.refl _, List.Pairwise.nil⟩
  | i :: l, h => by
    obtain ⟨h1, h2⟩ := List.pairwise_cons.mp h
    obtain ⟨i1, i2⟩ := cheap_fold L h2
    exact ⟨(putCheap_perm L i _).trans (i1.cons i), putCheap_sorted L i i2 fun j hj => h1 j (i1.mem_iff.mp hj)⟩
theorem likeliest_perm (L : List Word) (r : Text) : (likeliest L r).Perm (goers L r) := (cheap_fold L (goers_up L r)).1
theorem likeliest_sorted (L : List Word) (r : Text) : (likeliest L r).Pairwise (Cheap (costAt L)) := (cheap_fold L (goers_up L r)).2
theorem likeliest_is {L : List Word} {r : Text} {M : List Nat} (p : M.Perm (goers L r)) (s : M.Pairwise (Cheap (costAt L))) : M = likeliest L r :=
  strict_unique (cheap_asym _) (p.trans (likeliest_perm L r).symm) s (likeliest_sorted L r)
/-! ### a stable sort -/
theorem nodup_of {α : Type} {R : α → α → Prop} (as : ∀ a b, R a b → ¬ R b a) {l : List α} (h : l.Pairwise R) : l.Nodup := h.imp fun {a b} hab z => by
  subst z
  exact as _ _ hab hab
theorem two_ways {α : Type} : ∀ {l : List α} {a b : α}, l.Nodup → [a, b].Sublist l → [b, a].Sublist l → False
  | [], _, _, _, h, _ => by cases h
  | x :: l, a, b, hn, h1, h2 => by
    obtain ⟨n1, n2⟩ := List.nodup_cons.mp hn
    cases h1 with
    | cons _ h1 => cases h2 with
      | cons _ h2 => exact two_ways n2 h1 h2
      | cons_cons _ h2 => exact n1 (h1.subset (by simp))
    | cons_cons _ h1 => cases h2 with
      | cons _ h2 => exact n1 (h2.subset (by simp))
      | cons_cons _ h2 => exact n1 (h1.subset (by simp))
theorem pair_of {α : Type} : ∀ {l : List α} {a b : α}, a ∈ l → b ∈ l → a ≠ b → [a, b].Sublist l ∨ [b, a].Sublist l
  | [], _, _, h, _, _ => by cases h
  | x :: l, a, b, ha, hb, n => by
    rcases List.mem_cons.mp ha with za | za
    · subst za
      rcases List.mem_cons.mp hb with zb | zb
      · exact absurd zb.symm n
      · exact .inl ((List.singleton_sublist.mpr zb).cons_cons a)
    · rcases List.mem_cons.mp hb with zb | zb
      · subst zb
        exact .inr ((List.singleton_sublist.mpr za).cons_cons b)
      · rcases pair_of za zb n with z | z
        · exact .inl (z.cons x)
        · exact .inr (z.cons x)
theorem stable {α : Type} {le : α → α → Bool} (tr : ∀ a b c, le a b = true → le b c = true → le a c = true) (tot : ∀ a b, (le a b || le b a) = true) {R : α → α → Prop} (as : ∀ a b, R a b → ¬ R b a) {l : List α} (hl : l.Pairwise R) :
    (l.mergeSort le).Pairwise fun a b => le a b = true ∧ (le b a = true → R a b) := by
  have hn : (l.mergeSort le).Nodup := (List.mergeSort_perm l le).nodup_iff.mpr (nodup_of as hl)
  have hs := List.pairwise_mergeSort tr tot l
  rw [List.pairwise_iff_forall_sublist] at hs ⊢
  intro a b hab
  refine ⟨hs hab, fun hba => ?_⟩
  have ma : a ∈ l := (List.mergeSort_perm l le).mem_iff.mp (hab.subset (by simp))
  have mb : b ∈ l := (List.mergeSort_perm l le).mem_iff.mp (hab.subset (by simp))
  have ne : a ≠ b := by
    intro z
    subst z
    have := hab.nodup hn
    simp at this
  rcases pair_of ma mb ne with z | z
  · exact List.pairwise_iff_forall_sublist.mp hl z
  · exfalso
    have z2 : [b, a].Pairwise (fun x y => le x y = true) := by simp [hba]
    exact two_ways hn hab (List.sublist_mergeSort tr tot z2 z)
/-! ### by the words themselves -/
theorem cheap_words {L : List Word} (h : InOrder L) {i j : Nat} {a b : Word} (hi : L[i]? = some a) (hj : L[j]? = some b) (hc : a.cost < b.cost ∨ (a.cost = b.cost ∧ (before a.reading b.reading = true ∨ (a.reading = b.reading ∧ before a.text b.text = true)))) : Cheap (costAt L) i j := by
  have ci : costAt L i = a.cost := by unfold costAt; rw [hi]; rfl
  have cj : costAt L j = b.cost := by unfold costAt; rw [hj]; rfl
  unfold Cheap
  rw [ci, cj]
  rcases hc with c | ⟨c1, c2⟩
  · exact .inl c
  · refine .inr ⟨c1, ?_⟩
    have hb : a.before b = true := by
      rw [wbef_iff]
      rcases c2 with c2 | ⟨c2, c3⟩
      · exact .inl c2
      · exact .inr ⟨c2, .inr ⟨c1, c3⟩⟩
    obtain ⟨li, ei⟩ := List.getElem?_eq_some_iff.mp hi
    obtain ⟨lj, ej⟩ := List.getElem?_eq_some_iff.mp hj
    rcases Nat.lt_trichotomy i j with z | z | z
    · exact z
    · subst z
      rw [ei] at ej
      subst ej
      rw [wbef_irr] at hb
      cases hb
    · have := List.pairwise_iff_getElem.mp h j i lj li z
      rw [ei, ej] at this
      rw [wbef_asym this] at hb
      cases hb
end So
/-! Mathematics: how the program finds what is asked. -/
namespace So
open Sy
/-! ### refusals, as the program counts them -/
/-- of several rows: -1, -3, or 0 -/
def rowsNum (rs : List Text) : Int := if (rs.any fun r => decide (64 < r.length)) = true then -1 else if (rs.all isText) = false then -3 else 0
theorem one_some {r : Text} {z : Int} (h : rowsNum [r] = z) (hz : z ≠ 0) : rowFault r = some z := by
  unfold rowsNum at h
  unfold rowFault
  by_cases c1 : 64 < r.length
  · simp [c1] at h
    rw [if_pos c1, h]
  · by_cases c2 : isText r = false
    · simp [c1, c2] at h
      rw [if_neg c1, if_pos c2, h]
    · simp [c1, c2] at h
      exact absurd h.symm hz
theorem one_none {r : Text} (h : rowsNum [r] = 0) : rowFault r = none := by
  unfold rowsNum at h
  unfold rowFault
  by_cases c1 : 64 < r.length
  · simp [c1] at h
  · by_cases c2 : isText r = false
    · simp [c1, c2] at h
    · rw [if_neg c1, if_neg c2]
theorem two_some {r t : Text} {z : Int} (h : rowsNum [r, t] = z) (hz : z ≠ 0) : twoFault r t = some z := by
  unfold rowsNum at h
  unfold twoFault
  by_cases c1 : 64 < r.length ∨ 64 < t.length
  · rw [if_pos (by simpa using c1)] at h
    rw [if_pos c1, h]
  · rw [if_neg (by simpa using c1)] at h
    rw [if_neg c1]
    by_cases c2 : isText r = false ∨ isText t = false
    · rw [if_pos (by simpa using (by rcases c2 with c | c <;> simp [c] : ¬ (isText r = true ∧ isText t = true)))] at h
      rw [if_pos c2, h]
    · rw [if_neg (by simpa using c2)] at h
      exact absurd h.symm hz
theorem two_none {r t : Text} (h : rowsNum [r, t] = 0) : twoFault r t = none := by
  cases e : twoFault r t with
  | none => rfl
  | some z =>
    exfalso
    unfold twoFault at e
    unfold rowsNum at h
    by_cases c1 : 64 < r.length ∨ 64 < t.length
    · rw [if_pos (by simpa using c1)] at h
      cases h
    · rw [if_neg (by simpa using c1)] at h
      rw [if_neg c1] at e
      by_cases c2 : isText r = false ∨ isText t = false
      · rw [if_pos (by simpa using (by rcases c2 with c | c <;> simp [c] : ¬ (isText r = true ∧ isText t = true)))] at h
        cases h
      · rw [if_neg c2] at e
        cases e
/-! ### words that begin here, length by length -/
/-- the program's turn: a word of the number i -/
def bStep (r : Text) (acc : List (List Nat)) (i : Nat) (w : Word) : List (List Nat) :=
  if w.reading.isPrefixOf r = false then acc else match acc.getLast? with
    | some [k, f, c] => if k = w.reading.length then acc.dropLast ++ [[k, f, c + 1]] else acc ++ [[w.reading.length, i, 1]]
    | _ => acc ++ [[w.reading.length, i, 1]]
/-- the lengths that some words have -/
def lensOf (L : List Word) (r : Text) : List Nat := (List.range (r.length + 1)).filter fun (j : Nat) => decide (0 < j) && decide (0 < manyOf L (r.take j))
def triple (L : List Word) (r : Text) (j : Nat) : List Nat := [j, firstOf L (r.take j), manyOf L (r.take j)]
theorem beginsHere_eq (L : List Word) (r : Text) : beginsHere L r = (lensOf L r).map (triple L r) := rfl
theorem filter_till {l : List Nat} (hs : l.Pairwise (· < ·)) {k : Nat} (hk : k ∈ l) {p : Nat → Bool} (hp : ∀ j ∈ l, k < j → p j = false) : l.filter p = (l.filter fun j => decide (j < k) && p j) ++ if p k = true then [k] else [] := by
  induction l with
  | nil => cases hk
  | cons a l ih =>
    obtain ⟨h1, h2⟩ := List.pairwise_cons.mp hs
    rcases List.mem_cons.mp hk with z | z
    · subst z
      have e1 : l.filter p = [] := by
        rw [List.filter_eq_nil_iff]
        intro j hj
        rw [hp j (List.mem_cons_of_mem _ hj) (h1 j hj)]
        decide
      have e2 : (l.filter fun j => decide (j < k) && p j) = [] := by
        rw [List.filter_eq_nil_iff]
        intro j hj
        have := h1 j hj
        have e : decide (j < k) = false := by rw [decide_eq_false_iff_not]; omega
        rw [e]
        simp
      have e3 : (decide (k < k) && p k) = false := by simp
      rw [List.filter_cons, List.filter_cons, e1, e2, e3]
      cases p k <;> rfl
    · have hak := h1 k z
      have e3 : (decide (a < k) && p a) = p a := by
        have e : decide (a < k) = true := by rw [decide_eq_true_eq]; exact hak
        rw [e]
        rfl
      rw [List.filter_cons, List.filter_cons, e3, ih h2 z fun j hj => hp j (List.mem_cons_of_mem _ hj)]
      cases p a <;> rfl
theorem many_app (M : List Word) (w : Word) (t : Text) : manyOf (M ++ [w]) t = manyOf M t + if w.reading = t then 1 else 0 := by
  unfold manyOf
  rw [List.filter_append, List.length_append]
  by_cases c : w.reading = t
  · rw [if_pos c, List.filter_cons, if_pos (by simpa using c)]
    rfl
  · rw [if_neg c, List.filter_cons, if_neg (by simpa using c)]
    rfl
theorem first_app (M : List Word) (w : Word) (t : Text) : firstOf (M ++ [w]) t = firstOf M t + if before w.reading t = true then 1 else 0 := by
  unfold firstOf
  rw [List.filter_append, List.length_append]
  by_cases c : before w.reading t = true
  · rw [if_pos c, List.filter_cons, if_pos c]
    rfl
  · rw [if_neg c, List.filter_cons, if_neg c]
    rfl
theorem many_pos {M : List Word} {t : Text} (h : 0 < manyOf M t) : ∃ w ∈ M, w.reading = t := by
  unfold manyOf at h
  obtain ⟨w, hw⟩ := List.exists_mem_of_length_pos h
  obtain ⟨h1, h2⟩ := List.mem_filter.mp hw
  exact ⟨w, h1, by simpa using h2⟩
theorem many_of {M : List Word} {w : Word} (h : w ∈ M) : 0 < manyOf M w.reading :=
  List.length_pos_of_mem (List.mem_filter.mpr ⟨h, by simp⟩)
/-- a front of a row is before a longer one -/
theorem take_before : ∀ {r : Text} {j k : Nat}, j < k → k ≤ r.length → before (r.take j) (r.take k) = true
  | [], j, k, h1, h2 => by simp at h2; omega
  | a :: r, j, 0, h1, _ => by omega
  | a :: r, 0, k + 1, _, _ => by simp [before]
  | a :: r, j + 1, k + 1, h1, h2 => by
    rw [List.take_succ_cons, List.take_succ_cons, bef_cons]
    exact .inr ⟨rfl, take_before (by omega) (by simpa using h2)⟩
theorem pre_is {s r : Text} (h : s.isPrefixOf r = true) : s = r.take s.length ∧ s.length ≤ r.length := by
  rw [List.isPrefixOf_iff_prefix] at h
  exact ⟨List.prefix_iff_eq_take.mp h, h.length_le⟩
theorem pre_take (r : Text) (j : Nat) : (r.take j).isPrefixOf r = true := by
  rw [List.isPrefixOf_iff_prefix]
  exact List.take_prefix j r
/-- one more word behind those that are in order: M's readings are not behind w's -/
theorem begins_step {M : List Word} {w : Word} (r : Text) (hM : ∀ x ∈ M, before w.reading x.reading = false) (hw : w.reading ≠ []) : beginsHere (M ++ [w]) r = bStep r (beginsHere M r) M.length w := by
  -- what stands keeps its first one's number
  have fst : ∀ j, 0 < manyOf M (r.take j) → firstOf (M ++ [w]) (r.take j) = firstOf M (r.take j) := by
    intro j hj
    obtain ⟨x, hx, e⟩ := many_pos hj
    rw [first_app, if_neg, Nat.add_zero]
    rw [← e, hM x hx]
    decide
  unfold bStep
  by_cases hp : w.reading.isPrefixOf r = false
  · rw [if_pos hp]
    have ne : ∀ j, ¬ w.reading = r.take j := fun j z => by
      rw [z, pre_take] at hp
      cases hp
    have mny : ∀ j, manyOf (M ++ [w]) (r.take j) = manyOf M (r.take j) := fun j => by rw [many_app, if_neg (ne j), Nat.add_zero]
    rw [beginsHere_eq, beginsHere_eq]
    have e1 : lensOf (M ++ [w]) r = lensOf M r := by
      unfold lensOf
      exact List.filter_congr fun j _ => by rw [mny]
    rw [e1]
    refine List.map_congr_left fun j hj => ?_
    have hj2 := (List.mem_filter.mp hj).2
    simp only [Bool.and_eq_true, decide_eq_true_eq] at hj2
    unfold triple
    rw [mny, fst j hj2.2]
  · rw [if_neg hp]
    have hp : w.reading.isPrefixOf r = true := by simpa using hp
    obtain ⟨e0, hle⟩ := pre_is hp
    generalize hk : w.reading.length = k at *
    have k1 : 0 < k := by
      rw [← hk]
      exact List.length_pos_iff.mpr hw
    have inj : ∀ j, j ≤ r.length → r.take j = r.take k → j = k := fun j hj z => by
      have := congrArg List.length z
      rw [List.length_take, List.length_take] at this
      omega
    have mny : ∀ j, j ≤ r.length → j ≠ k → manyOf (M ++ [w]) (r.take j) = manyOf M (r.take j) := fun j hj n => by
      rw [many_app, if_neg, Nat.add_zero]
      rw [e0]
      intro z
      exact n (inj j hj z.symm)
    have mk : manyOf (M ++ [w]) (r.take k) = manyOf M (r.take k) + 1 := by rw [many_app, if_pos e0]
    have fk : firstOf (M ++ [w]) (r.take k) = firstOf M (r.take k) := by rw [first_app, ← e0, bef_irr]; rfl
    -- nothing longer stands
    have top : ∀ j ∈ List.range (r.length + 1), k < j → (decide (0 < j) && decide (0 < manyOf M (r.take j))) = false := by
      intro j hj hkj
      have hjr : j ≤ r.length := by
        have := List.mem_range.mp hj
        omega
      have : ¬ 0 < manyOf M (r.take j) := fun z => by
        obtain ⟨x, hx, e⟩ := many_pos z
        have h1 := hM x hx
        rw [e, e0, take_before hkj hjr] at h1
        cases h1
      simp [this]
    have top2 : ∀ j ∈ List.range (r.length + 1), k < j → (decide (0 < j) && decide (0 < manyOf (M ++ [w]) (r.take j))) = false := by
      intro j hj hkj
      have hjr : j ≤ r.length := by
        have := List.mem_range.mp hj
        omega
      rw [mny j hjr (by omega)]
      exact top j hj hkj
    have hkm : k ∈ List.range (r.length + 1) := List.mem_range.mpr (by omega)
    have s1 := filter_till List.pairwise_lt_range hkm top
    have s2 := filter_till List.pairwise_lt_range hkm top2
    have ec : ((List.range (r.length + 1)).filter fun j => decide (j < k) && (decide (0 < j) && decide (0 < manyOf (M ++ [w]) (r.take j)))) = ((List.range (r.length + 1)).filter fun j => decide (j < k) && (decide (0 < j) && decide (0 < manyOf M (r.take j)))) := by
      refine List.filter_congr fun j hj => ?_
      by_cases c : j < k
      · rw [mny j (by omega) (by omega)]
      · simp [c]
    rw [ec] at s2
    rw [if_pos (by rw [mk]; simp [k1])] at s2
    generalize hC : ((List.range (r.length + 1)).filter fun j => decide (j < k) && (decide (0 < j) && decide (0 < manyOf M (r.take j)))) = C at s1 s2
    have hCm : C.map (triple (M ++ [w]) r) = C.map (triple M r) := by
      refine List.map_congr_left fun j hj => ?_
      rw [← hC] at hj
      obtain ⟨hj1, hj2⟩ := List.mem_filter.mp hj
      simp only [Bool.and_eq_true, decide_eq_true_eq] at hj2
      have hjr := List.mem_range.mp hj1
      unfold triple
      rw [mny j (by omega) (by omega), fst j hj2.2.2]
    have hlast : ∀ j ∈ C, j < k := fun j hj => by
      rw [← hC] at hj
      have hj2 := (List.mem_filter.mp hj).2
      simp only [Bool.and_eq_true, decide_eq_true_eq] at hj2
      exact hj2.1
    rw [beginsHere_eq, beginsHere_eq]
    have e2 : lensOf (M ++ [w]) r = C ++ [k] := s2
    have e1 : lensOf M r = C ++ if (decide (0 < k) && decide (0 < manyOf M (r.take k))) = true then [k] else [] := s1
    rw [e1, e2]
    by_cases c : 0 < manyOf M (r.take k)
    · rw [if_pos (by simp [k1, c]), List.map_append, List.map_append, hCm]
      have l1 : (C.map (triple M r) ++ [k].map (triple M r)).getLast? = some [k, firstOf M (r.take k), manyOf M (r.take k)] := by
        rw [List.map_singleton, List.getLast?_concat]
        rfl
      rw [l1]
      dsimp only
      rw [if_pos rfl]
      rw [List.map_singleton, List.map_singleton, List.dropLast_concat]
      unfold triple
      rw [mk, fk]
    · rw [if_neg (by simp [c]), List.append_nil, List.map_append, hCm]
      have f0 : firstOf M (r.take k) = M.length := by
        unfold firstOf
        rw [List.filter_eq_self.mpr]
        intro x hx
        rcases bef_or (hM x hx) with z | z
        · exfalso
          have := many_of hx
          rw [← z, e0] at this
          exact c this
        · rw [← e0]
          exact z
      have m0 : manyOf M (r.take k) = 0 := by omega
      have tk : triple (M ++ [w]) r k = [k, M.length, 1] := by
        unfold triple
        rw [mk, fk, f0, m0]
      rw [List.map_singleton, tk]
      cases hg : (C.map (triple M r)).getLast? with
      | none => rfl
      | some t =>
        have ht : t ∈ C.map (triple M r) := List.mem_of_getLast? hg
        obtain ⟨j, hj, rfl⟩ := List.mem_map.mp ht
        have := hlast j hj
        unfold triple
        dsimp only
        rw [if_neg (by omega)]
/-- .. of a list in order, from its front on -/
theorem begins_take {L : List Word} (h : InOrder L) (hn : ∀ w ∈ L, w.reading ≠ []) (r : Text) {i : Nat} {w : Word} (hi : L[i]? = some w) : beginsHere (L.take (i + 1)) r = bStep r (beginsHere (L.take i) r) i w := by
  obtain ⟨li, ei⟩ := List.getElem?_eq_some_iff.mp hi
  have e : L.take (i + 1) = L.take i ++ [w] := by rw [List.take_add_one, hi]; rfl
  rw [e, begins_step r (fun x hx => ?_) (hn w (List.mem_of_getElem? hi)), List.length_take, Nat.min_eq_left (by omega)]
  obtain ⟨j, hj, rfl⟩ := List.mem_iff_getElem.mp hx
  rw [List.length_take] at hj
  rw [List.getElem_take]
  have := List.pairwise_iff_getElem.mp h j i (by omega) li (by omega)
  rw [ei] at this
  exact read_le this
theorem begins_nil (r : Text) : beginsHere [] r = [] := by
  rw [beginsHere_eq]
  have : lensOf [] r = [] := by
    unfold lensOf
    rw [List.filter_eq_nil_iff]
    intro j _
    simp [manyOf]
  rw [this]
  rfl
theorem begins_three {L : List Word} {r : Text} {t : List Nat} (h : t ∈ beginsHere L r) : ∃ a b c, t = [a, b, c] := by
  rw [beginsHere_eq] at h
  obtain ⟨j, _, rfl⟩ := List.mem_map.mp h
  exact ⟨_, _, _, rfl⟩
theorem begins_few {L : List Word} {r : Text} : (beginsHere L r).length ≤ r.length + 1 := by
  rw [beginsHere_eq, List.length_map]
  refine Nat.le_trans (List.length_filter_le ..) ?_
  rw [List.length_range]
  exact Nat.le_refl _
/-! ### the number of a word -/
theorem number_at {L : List Word} {r t : Text} {i : Nat} {w : Word} (hi : L[i]? = some w) (hy : (w.reading == r && w.text == t) = true) (hn : ∀ j x, j < i → L[j]? = some x → (x.reading == r && x.text == t) = false) : numberOfWord L r t = some i := by
  obtain ⟨li, ei⟩ := List.getElem?_eq_some_iff.mp hi
  unfold numberOfWord
  rw [List.findIdx?_eq_some_iff_getElem]
  refine ⟨li, by rw [ei]; exact hy, fun j hj => ?_⟩
  have := hn j _ hj (List.getElem?_eq_getElem (by omega))
  simp [this]
theorem number_no {L : List Word} {r t : Text} (hn : ∀ (j : Nat) (x : Word), L[j]? = some x → (x.reading == r && x.text == t) = false) : numberOfWord L r t = none := by
  unfold numberOfWord
  rw [List.findIdx?_eq_none_iff]
  intro x hx
  obtain ⟨j, hj⟩ := List.getElem?_of_mem hx
  exact hn j x hj
/-! ### those that go on, by their numbers -/
/-- numbers of a list's items that pass -/
def numsOf (p : Word → Bool) (L : List Word) : List Nat := (List.range L.length).filter fun i => match L[i]? with
  | some w => p w
  | none => false
theorem goers_nums (L : List Word) (r : Text) : goers L r = numsOf (fun w => r.isPrefixOf w.reading) L := rfl
theorem goes_count (L : List Word) (r : Text) : (goers L r).length = goesOn L r := by
  have key : ∀ (L : List Word) (p : Word → Bool), (numsOf p L).length = (L.filter p).length := by
    intro L p
    induction L with
    | nil => rfl
    | cons w L ih =>
      unfold numsOf at ih ⊢
      rw [List.length_cons, List.range_succ_eq_map, List.filter_cons, List.filter_map, List.filter_cons]
      have e : ((List.range L.length).filter ((fun i => match (w :: L)[i]? with
        | some w => p w
        | none => false) ∘ Nat.succ)) = ((List.range L.length).filter fun i => match L[i]? with
        | some w => p w
        | none => false) := List.filter_congr fun i _ => by
          show (match (w :: L)[i + 1]? with
            | some w => p w
            | none => false) = _
          rw [List.getElem?_cons_succ]
      rw [e]
      have e0 : (w :: L)[0]? = some w := rfl
      rw [e0]
      dsimp only
      by_cases c : p w = true
      · rw [if_pos c, if_pos c, List.length_cons, List.length_cons, List.length_map, ih]
      · rw [if_neg c, if_neg c, List.length_map, ih]
  exact key L _
/-- by cost, reading, text -/
def likeLt (a b : Word) : Bool := decide (a.cost < b.cost) || (a.cost == b.cost && (before a.reading b.reading || (a.reading == b.reading && before a.text b.text)))
theorem like_tot {a b : Word} (h : likeLt b a = false) (n : a.cost = b.cost → a.reading = b.reading → a.text = b.text → False) : a.cost < b.cost ∨ (a.cost = b.cost ∧ (before a.reading b.reading = true ∨ (a.reading = b.reading ∧ before a.text b.text = true))) := by
  unfold likeLt at h
  simp only [Bool.or_eq_false_iff, Bool.and_eq_false_iff, decide_eq_false_iff_not, beq_eq_false_iff_ne] at h
  obtain ⟨h1, h2⟩ := h
  rcases Nat.lt_trichotomy a.cost b.cost with c | c | c
  · exact .inl c
  · refine .inr ⟨c, ?_⟩
    have h2 := h2.resolve_left (fun z => z c.symm)
    rcases bef_or h2.1 with z | z
    · have h3 := h2.2.resolve_left (fun y => y z)
      rcases bef_or h3 with y | y
      · exact (n c z.symm y.symm).elim
      · exact .inr ⟨z.symm, y⟩
    · exact .inl z
  · exact absurd c h1
/-- the numbers sorted by cost, reading, text are the likeliest -/
theorem likeliest_by {L : List Word} (h : InOrder L) {r : Text} {M : List Nat} (p : M.Perm (goers L r)) (s : M.Pairwise fun i j => ∀ a b, L[i]? = some a → L[j]? = some b → likeLt b a = false) : M = likeliest L r := by
  refine likeliest_is p ?_
  have hnd : M.Nodup := p.nodup_iff.mpr (nodup_of (R := (· < ·)) (fun a b h1 h2 => by omega) (goers_up L r))
  have hin : ∀ i ∈ M, ∃ a, L[i]? = some a := fun i hi => by
    have := (List.mem_filter.mp (p.mem_iff.mp hi)).1
    exact ⟨_, List.getElem?_eq_getElem (List.mem_range.mp this)⟩
  refine (List.pairwise_and_iff.mpr ⟨s, hnd⟩).imp_of_mem fun {i j} hi hj hij => ?_
  obtain ⟨a, ha⟩ := hin i hi
  obtain ⟨b, hb⟩ := hin j hj
  refine cheap_words h ha hb (like_tot (hij.1 a b ha hb) fun z1 z2 z3 => ?_)
  obtain ⟨li, ei⟩ := List.getElem?_eq_some_iff.mp ha
  obtain ⟨lj, ej⟩ := List.getElem?_eq_some_iff.mp hb
  have nb : ∀ x y : Word, x.cost = y.cost → x.reading = y.reading → x.text = y.text → x.before y = true → False := by
    intro x y y1 y2 y3 hb
    rw [wbef_iff] at hb
    rw [y2, y3, bef_irr, bef_irr] at hb
    rcases hb with hb | ⟨_, hb | ⟨_, hb⟩⟩
    · cases hb
    · omega
    · cases hb
  rcases Nat.lt_trichotomy i j with c | c | c
  · have := List.pairwise_iff_getElem.mp h i j li lj c
    rw [ei, ej] at this
    exact nb a b z1 z2 z3 this
  · exact hij.2 c
  · have := List.pairwise_iff_getElem.mp h j i lj li c
    rw [ei, ej] at this
    exact nb b a z1.symm z2.symm z3.symm this
/-! ### the order by likelihood is one -/
theorem like_iff {a b : Word} : likeLt a b = true ↔ a.cost < b.cost ∨ (a.cost = b.cost ∧ (before a.reading b.reading = true ∨ (a.reading = b.reading ∧ before a.text b.text = true))) := by
  unfold likeLt
  simp
theorem like_trans {a b c : Word} (h1 : likeLt a b = true) (h2 : likeLt b c = true) : likeLt a c = true := by
  rw [like_iff] at *
  rcases h1 with h1 | ⟨e1, h1⟩ <;> rcases h2 with h2 | ⟨e2, h2⟩
  · exact .inl (by omega)
  · exact .inl (by omega)
  · exact .inl (by omega)
  · refine .inr ⟨by omega, ?_⟩
    rcases h1 with h1 | ⟨f1, h1⟩ <;> rcases h2 with h2 | ⟨f2, h2⟩
    · exact .inl (bef_trans h1 h2)
    · exact .inl (by rw [← f2]; exact h1)
    · exact .inl (by rw [f1]; exact h2)
    · exact .inr ⟨f1.trans f2, bef_trans h1 h2⟩
theorem like_irr (a : Word) : likeLt a a = false := by
  cases e : likeLt a a with
  | false => rfl
  | true =>
    rw [like_iff, bef_irr, bef_irr] at e
    rcases e with e | ⟨_, e | ⟨_, e⟩⟩
    · omega
    · cases e
    · cases e
theorem like_asym {a b : Word} (h : likeLt a b = true) : likeLt b a = false := by
  cases e : likeLt b a with
  | false => rfl
  | true =>
    have := like_trans h e
    rw [like_irr] at this
    cases this
theorem like_tri (a b : Word) : likeLt a b = true ∨ (a.cost = b.cost ∧ a.reading = b.reading ∧ a.text = b.text) ∨ likeLt b a = true := by
  rw [like_iff, like_iff]
  rcases Nat.lt_trichotomy a.cost b.cost with c | c | c
  · exact .inl (.inl c)
  · rcases bef_tri a.reading b.reading with d | d | d
    · exact .inl (.inr ⟨c, .inl d⟩)
    · rcases bef_tri a.text b.text with e | e | e
      · exact .inl (.inr ⟨c, .inr ⟨d, e⟩⟩)
      · exact .inr (.inl ⟨c, d, e⟩)
      · exact .inr (.inr (.inr ⟨c.symm, .inr ⟨d.symm, e⟩⟩))
    · exact .inr (.inr (.inr ⟨c.symm, .inl d⟩))
  · exact .inr (.inr (.inl c))
def likeLe (a b : Word) : Bool := !likeLt b a
theorem likeLe_trans (a b c : Word) (h1 : likeLe a b = true) (h2 : likeLe b c = true) : likeLe a c = true := by
  unfold likeLe at *
  simp only [Bool.not_eq_true'] at *
  cases e : likeLt c a with
  | false => rfl
  | true =>
    rcases like_tri b a with k | ⟨k1, k2, k3⟩ | k
    · rw [h1] at k
      cases k
    · have : likeLt c b = true := by
        rw [like_iff] at e ⊢
        rw [k1, k2, k3]
        exact e
      rw [h2] at this
      cases this
    · have := like_trans e k
      rw [h2] at this
      cases this
theorem likeLe_total (a b : Word) : (likeLe a b || likeLe b a) = true := by
  unfold likeLe
  cases e : likeLt b a with
  | false => rfl
  | true =>
    rw [like_asym e]
    rfl
/-- the word of a number -/
def wAt (L : List Word) (i : Nat) : Word := (L[i]?).getD ⟨[], [], 0, 0, 0⟩
theorem wAt_some {L : List Word} {i : Nat} {w : Word} (h : L[i]? = some w) : wAt L i = w := by
  unfold wAt
  rw [h]
  rfl
theorem goers_at {L : List Word} {r : Text} {i : Nat} (h : i ∈ goers L r) : L[i]? = some (wAt L i) := by
  have hi := List.mem_range.mp (List.mem_filter.mp h).1
  rw [wAt_some (List.getElem?_eq_getElem hi)]
  exact List.getElem?_eq_getElem hi
/-- the numbers of those that go on, sorted by their words -/
def likeNums (L : List Word) (r : Text) : List Nat := (goers L r).mergeSort fun i j => likeLe (wAt L i) (wAt L j)
theorem likeNums_is {L : List Word} (h : InOrder L) (r : Text) : likeNums L r = likeliest L r := by
  refine likeliest_by h (List.mergeSort_perm _ _) ?_
  have hp := List.pairwise_mergeSort (le := fun i j => likeLe (wAt L i) (wAt L j)) (fun a b c => likeLe_trans _ _ _) (fun a b => likeLe_total _ _) (goers L r)
  refine hp.imp fun {i j} q a b ha hb => ?_
  rw [wAt_some ha, wAt_some hb] at q
  simpa [likeLe] using q
end So
/-! Words of my own over HandS: general, not of this program. -/
namespace So
open PySem PySem.Spec PyProof.Rows L2 Evl
def top (i : Nat) : Stmt := PySem.Challenge.pw_soundlex_s01_answers.main.body.getD i (.Pass ⟨0, 0, 0, 0⟩)
/-- a row of numbers as values -/
abbrev nv (r : List Nat) : List V := r.map fun (n : Nat) => V.int (n : Int)
/-- a whole number's constant -/
def IntC (mg : Str → Option Value) (x : Str) (n : Int) : Prop := ∃ t, mg x = some (.int n t)
theorem pe_ic {X : Cx} {x : Str} {n : Int} {pos : Pos} (h : IntC X.mg x n) (hg : Gl X x := by rfl) (hd : (x == ("__debug__" : Str)) = false := by decide) : PE X (.Name x pos) (tC (.int n)) := by
  obtain ⟨t, e⟩ := h
  exact pe_glob hg e ⟨t, rfl⟩ hd
/-- a def of the top -/
structure Dn (K : PySem.W.Frag) (mg : Str → Option Value) (x : Str) (st : Stmt) (ps : List Str) (f : Addr) (fd : FuncData) : Prop where
  F : Fun K x x st f fd
  b : Binds K fd ps []
  g : mg x = some (.ref f)
  kp : PySem.W.keepIn K (.ref f) = true
section
variable {K : PySem.W.Frag} {σ : L2.St} {H : Hp} {ta tb te tl : TE} {t : TT} {x y z v : V}
theorem call1 {sp : Sp} {E : XK} (h : Ev te σ H x) (hs : ∀ H1, Ex H H1 → ∀ Q : VK, RetV z H1 Q → ∀ E : XK, sp [x] H1 Q E) : Ev (tCall sp [] E (tCons te tNil)) σ H z :=
  ev_call (ea_cons h ea_nil) hs
theorem call2 {sp : Sp} {E : XK} (h : Ev ta σ H x) (h2 : Ev tb σ H y) (hs : ∀ H1, Ex H H1 → ∀ Q : VK, RetV z H1 Q → ∀ E : XK, sp [x, y] H1 Q E) : Ev (tCall sp [] E (tCons ta (tCons tb tNil))) σ H z :=
  ev_call (ea_cons h (ea_cons h2 ea_nil)) hs
theorem call1L {sp : Sp} {E : XK} {xs : List V} (h : Ev te σ H x) (hs : ∀ H1, Ex H H1 → ∀ Q : VK, RetL xs H1 Q → ∀ E : XK, sp [x] H1 Q E) : EvL (tCall sp [] E (tCons te tNil)) σ H xs :=
  el_call (ea_cons h ea_nil) hs
/-- [e for x in xs if t] over a list -/
def CmpI (H : Hp) (f : V → Bool) (g : V → V) (xs : List V) (Dl : Addr) (i : Nat) (H' : Hp) : Prop := H Dl = none ∧ Ex H H' ∧ H' Dl = some (.lst (((xs.take i).filter f).map g))
theorem take_succ_of {α : Type} : ∀ {l : List α} {i : Nat} {x : α}, l[i]? = some x → l.take (i + 1) = l.take i ++ [x]
  | [], i, x, h => by simp at h
  | a :: l, 0, x, h => by
    have e : a = x := Option.some.inj h
    subst e
    rfl
  | a :: l, i + 1, x, h => by
    have ih := take_succ_of (l := l) (i := i) (x := x) h
    show a :: l.take (i + 1) = a :: l.take i ++ [x]
    rw [ih]
    rfl
theorem comp_turn {H H' : Hp} {xs : List V} {f : V → Bool} {g : V → V} {Dl : Addr} {i : Nat} {σ2 : L2.St} {x : V} (p : CmpI H f g xs Dl i H') (hi : xs[i]? = some x) (hz : xs.length ≤ sizeLine) (ht : EvT t σ2 H (f x)) (he : f x = true → Ev te σ2 H (g x)) :
    t σ2 H' fun b H3 => if b = true then te σ2 H3 fun y H4 => ∃ acc, H4 Dl = some (.lst acc) ∧ acc.length < sizeLine ∧ CmpI H f g xs Dl (i + 1) (upd H4 Dl (.lst (acc ++ [y]))) else CmpI H f g xs Dl (i + 1) H3 := by
  obtain ⟨p1, p2, p3⟩ := p
  have et := take_succ_of hi
  refine ht H' p2 _ fun H3 e3 => ?_
  cases hf : f x with
  | true =>
    show te σ2 H3 fun y H4 => ∃ acc, H4 Dl = some (.lst acc) ∧ acc.length < sizeLine ∧ CmpI H f g xs Dl (i + 1) (upd H4 Dl (.lst (acc ++ [y])))
    refine he hf H3 (p2.trans e3) _ fun H4 e4 => ⟨((xs.take i).filter f).map g, e4 Dl _ (e3 Dl _ p3), ?_, p1, Ex.mut ((p2.trans e3).trans e4) p1, ?_⟩
    · have h1 := (List.getElem?_eq_some_iff.mp hi).1
      have h2 := List.length_filter_le f (xs.take i)
      rw [List.length_take] at h2
      rw [List.length_map]
      omega
    · rw [et, List.filter_append, List.map_append, List.filter_cons, if_pos hf]
      exact upd_same
  | false =>
    show CmpI H f g xs Dl (i + 1) H3
    refine ⟨p1, p2.trans e3, ?_⟩
    rw [et, List.filter_append, List.map_append, List.filter_cons, if_neg (by rw [hf]; decide)]
    show H3 Dl = some (.lst (_ ++ []))
    rw [List.append_nil]
    exact e3 Dl _ p3
theorem el_comp {a : Addr} {xs : List V} {j : Nat} {vs : List Nat} (f : V → Bool) (g : V → V) (h : Ev tl σ H (.ref a)) (hx : SqL K H a xs) (hz : xs.length ≤ sizeLine) (hw : ∀ x, wipe ((wipe σ vs).set j (some x)) vs = wipe σ vs)
    (ht : ∀ (x : V) H1, Ex H H1 → x ∈ xs → EvT t ((wipe σ vs).set j (some x)) H1 (f x)) (he : ∀ (x : V) H1, Ex H H1 → x ∈ xs → f x = true → Ev te ((wipe σ vs).set j (some x)) H1 (g x)) :
    EvL (tLc (iList K tl) (gName j) t te vs) σ H ((xs.filter f).map g) := fun H0 e Q q => h H0 e _ fun H1 e1 => ⟨a, rfl, ⟨xs, ex_l (e.trans e1) hx⟩, fun Dl hD =>
  lc_list (xs := xs) (CmpI H1 f g xs Dl) ⟨hD, Ex.new hD, upd_same⟩ (fun i H' _ p => ex_l ((e.trans e1).trans p.2.1) hx) (fun i x H' hi p => ⟨hw x, comp_turn p hi hz (ht x H1 (e.trans e1) (List.mem_of_getElem? hi)) (fun hf => he x H1 (e.trans e1) (List.mem_of_getElem? hi) hf)⟩)
    (fun H' p => by
      have p3 := p.2.2
      rw [List.take_length] at p3
      exact q Dl H' (fresh_back e1 p.1) (e1.trans p.2.1) p3)⟩
/-- .. over a new list -/
theorem el_compN {xs : List V} {j : Nat} {vs : List Nat} (f : V → Bool) (g : V → V) (h : EvL tl σ H xs) (hz : xs.length ≤ sizeLine) (hw : ∀ x, wipe ((wipe σ vs).set j (some x)) vs = wipe σ vs)
    (ht : ∀ (x : V) H1, Ex H H1 → x ∈ xs → EvT t ((wipe σ vs).set j (some x)) H1 (f x)) (he : ∀ (x : V) H1, Ex H H1 → x ∈ xs → f x = true → Ev te ((wipe σ vs).set j (some x)) H1 (g x)) :
    EvL (tLc (iList K tl) (gName j) t te vs) σ H ((xs.filter f).map g) := fun H0 e Q q => h H0 e _ fun a H1 ha e1 hx => ⟨a, rfl, ⟨xs, sq_of hx⟩, fun Dl hD =>
  lc_list (xs := xs) (CmpI H1 f g xs Dl) ⟨hD, Ex.new hD, upd_same⟩ (fun i H' _ p => sq_of (p.2.1 a _ hx)) (fun i x H' hi p => ⟨hw x, comp_turn p hi hz (ht x H1 (e.trans e1) (List.mem_of_getElem? hi)) (fun hf => he x H1 (e.trans e1) (List.mem_of_getElem? hi) hf)⟩)
    (fun H' p => by
      have p3 := p.2.2
      rw [List.take_length] at p3
      exact q Dl H' (fresh_back e1 p.1) (e1.trans p.2.1) p3)⟩
/-- [e for x in xs if t], each item with what it stands for -/
def CmpZ {β : Type} (H : Hp) (f : V × β → Bool) (g : V × β → V) (zs : List (V × β)) (Dl : Addr) (i : Nat) (H' : Hp) : Prop := H Dl = none ∧ Ex H H' ∧ H' Dl = some (.lst (((zs.take i).filter f).map g))
theorem compZ_turn {β : Type} {H H' : Hp} {zs : List (V × β)} {f : V × β → Bool} {g : V × β → V} {Dl : Addr} {i : Nat} {σ2 : L2.St} {x : V × β} (p : CmpZ H f g zs Dl i H') (hi : zs[i]? = some x) (hz : zs.length ≤ sizeLine) (ht : EvT t σ2 H (f x)) (he : f x = true → Ev te σ2 H (g x)) :
    t σ2 H' fun b H3 => if b = true then te σ2 H3 fun y H4 => ∃ acc, H4 Dl = some (.lst acc) ∧ acc.length < sizeLine ∧ CmpZ H f g zs Dl (i + 1) (upd H4 Dl (.lst (acc ++ [y]))) else CmpZ H f g zs Dl (i + 1) H3 := by
  obtain ⟨p1, p2, p3⟩ := p
  have et := take_succ_of hi
  refine ht H' p2 _ fun H3 e3 => ?_
  cases hf : f x with
  | true =>
    show te σ2 H3 fun y H4 => ∃ acc, H4 Dl = some (.lst acc) ∧ acc.length < sizeLine ∧ CmpZ H f g zs Dl (i + 1) (upd H4 Dl (.lst (acc ++ [y])))
    refine he hf H3 (p2.trans e3) _ fun H4 e4 => ⟨((zs.take i).filter f).map g, e4 Dl _ (e3 Dl _ p3), ?_, p1, Ex.mut ((p2.trans e3).trans e4) p1, ?_⟩
    · have h1 := (List.getElem?_eq_some_iff.mp hi).1
      have h2 := List.length_filter_le f (zs.take i)
      rw [List.length_take] at h2
      rw [List.length_map]
      omega
    · rw [et, List.filter_append, List.map_append, List.filter_cons, if_pos hf]
      exact upd_same
  | false =>
    show CmpZ H f g zs Dl (i + 1) H3
    refine ⟨p1, p2.trans e3, ?_⟩
    rw [et, List.filter_append, List.map_append, List.filter_cons, if_neg (by rw [hf]; decide)]
    show H3 Dl = some (.lst (_ ++ []))
    rw [List.append_nil]
    exact e3 Dl _ p3
theorem fst_at {β : Type} {zs : List (V × β)} {i : Nat} {x : V} (h : (zs.map Prod.fst)[i]? = some x) : ∃ z, zs[i]? = some z ∧ z.1 = x := by
  rw [List.getElem?_map] at h
  cases q : zs[i]? with
  | none => rw [q] at h; cases h
  | some z => rw [q] at h; exact ⟨z, rfl, Option.some.inj h⟩
theorem el_compZ {β : Type} {a : Addr} {zs : List (V × β)} {j : Nat} {vs : List Nat} (f : V × β → Bool) (g : V × β → V) (h : Ev tl σ H (.ref a)) (hx : SqL K H a (zs.map Prod.fst)) (hz : zs.length ≤ sizeLine) (hw : ∀ x, wipe ((wipe σ vs).set j (some x)) vs = wipe σ vs)
    (ht : ∀ (x : V × β) H1, Ex H H1 → x ∈ zs → EvT t ((wipe σ vs).set j (some x.1)) H1 (f x)) (he : ∀ (x : V × β) H1, Ex H H1 → x ∈ zs → f x = true → Ev te ((wipe σ vs).set j (some x.1)) H1 (g x)) :
    EvL (tLc (iList K tl) (gName j) t te vs) σ H ((zs.filter f).map g) := fun H0 e Q q => h H0 e _ fun H1 e1 => ⟨a, rfl, ⟨_, ex_l (e.trans e1) hx⟩, fun Dl hD =>
  lc_list (xs := zs.map Prod.fst) (CmpZ H1 f g zs Dl) ⟨hD, Ex.new hD, upd_same⟩ (fun i H' _ p => ex_l ((e.trans e1).trans p.2.1) hx) (fun i x H' hi p => by
      obtain ⟨z, hz1, rfl⟩ := fst_at hi
      exact ⟨hw _, compZ_turn p hz1 hz (ht z H1 (e.trans e1) (List.mem_of_getElem? hz1)) (fun hf => he z H1 (e.trans e1) (List.mem_of_getElem? hz1) hf)⟩)
    (fun H' p => by
      have p3 := p.2.2
      rw [List.length_map, List.take_length] at p3
      exact q Dl H' (fresh_back e1 p.1) (e1.trans p.2.1) p3)⟩
theorem el_compZN {β : Type} {zs : List (V × β)} {j : Nat} {vs : List Nat} (f : V × β → Bool) (g : V × β → V) (h : EvL tl σ H (zs.map Prod.fst)) (hz : zs.length ≤ sizeLine) (hw : ∀ x, wipe ((wipe σ vs).set j (some x)) vs = wipe σ vs)
    (ht : ∀ (x : V × β) H1, Ex H H1 → x ∈ zs → EvT t ((wipe σ vs).set j (some x.1)) H1 (f x)) (he : ∀ (x : V × β) H1, Ex H H1 → x ∈ zs → f x = true → Ev te ((wipe σ vs).set j (some x.1)) H1 (g x)) :
    EvL (tLc (iList K tl) (gName j) t te vs) σ H ((zs.filter f).map g) := fun H0 e Q q => h H0 e _ fun a H1 ha e1 hx => ⟨a, rfl, ⟨_, sq_of hx⟩, fun Dl hD =>
  lc_list (xs := zs.map Prod.fst) (CmpZ H1 f g zs Dl) ⟨hD, Ex.new hD, upd_same⟩ (fun i H' _ p => sq_of (p.2.1 a _ hx)) (fun i x H' hi p => by
      obtain ⟨z, hz1, rfl⟩ := fst_at hi
      exact ⟨hw _, compZ_turn p hz1 hz (ht z H1 (e.trans e1) (List.mem_of_getElem? hz1)) (fun hf => he z H1 (e.trans e1) (List.mem_of_getElem? hz1) hf)⟩)
    (fun H' p => by
      have p3 := p.2.2
      rw [List.length_map, List.take_length] at p3
      exact q Dl H' (fresh_back e1 p.1) (e1.trans p.2.1) p3)⟩
theorem et_yes : EvT tYes σ H true := fun H1 _ _ q => q H1 (Ex.refl H1)
/-- all(..), any(..) of a new list of truth values -/
theorem ev_all {bs : List Bool} (h : EvL te σ H (bs.map V.bl)) : Ev (tCB (rAll K) (tCons te tNil)) σ H (.bl (bs.all id)) := fun H1 e Q q =>
  h H1 e _ fun p H2 _ e2 h2 => ⟨p, bs, rfl, sq_of h2, q H2 e2⟩
theorem ev_any {bs : List Bool} (h : EvL te σ H (bs.map V.bl)) : Ev (tCB (rAny K) (tCons te tNil)) σ H (.bl (bs.any id)) := fun H1 e Q q =>
  h H1 e _ fun p H2 _ e2 h2 => ⟨p, bs, rfl, sq_of h2, q H2 e2⟩
theorem all_map {α : Type} (l : List α) (p : α → Bool) : (l.map p).all id = l.all p := by
  rw [List.all_map]; rfl
theorem any_map {α : Type} (l : List α) (p : α → Bool) : (l.map p).any id = l.any p := by
  rw [List.any_map]; rfl
theorem filter_true {α : Type} (l : List α) : l.filter (fun _ => true) = l := by simp
/-- len of a list at an address -/
theorem ev_lenS {p : Addr} {xs : List V} (ha : Ev ta σ H (.ref p)) (h : SqL K H p xs) : Ev (tCB (rLenS K) (tCons ta tNil)) σ H (.int (xs.length : Int)) := ev_len ha h
end
end So
/-! rules.py -/
namespace So
open PySem PySem.Spec PyProof.Rows L2 Evl
abbrev sWord : Stmt := top 10
abbrev sWInit : Stmt := inClass sWord 0
abbrev sIsChar : Stmt := top 11
abbrev sMayStand : Stmt := top 13
abbrev sAllMay : Stmt := top 14
abbrev sIsRow : Stmt := top 15
abbrev sIsWord : Stmt := top 16
abbrev sIsSame : Stmt := top 17
abbrev sOrderOf : Stmt := top 18
/-- the constants, classes and builtins of rules.py -/
structure TxtR (K : PySem.W.Frag) (mg : Str → Option Value) (CW : Addr) : Prop where
  FS : IntC mg "FIRST_SURROGATE" 55296
  LS : IntC mg "LAST_SURROGATE" 57343
  CE : IntC mg "CHARACTERS_END" 1114112
  BL : IntC mg "BLANK" 32
  DE : IntC mg "DELETE" 127
  MC : IntC mg "MOST_CHARACTERS" 32
  MS : IntC mg "MOST_SORT" 255
  MK : IntC mg "MOST_COST" 65535
  len : mg "len" = none
  all : mg "all" = none
  cl : Cls K CW
  nR : NoAttr K CW "reading"
  nT : NoAttr K CW "text"
  nL : NoAttr K CW "left"
  nG : NoAttr K CW "right"
  nC : NoAttr K CW "cost"
  gW : mg "Word" = some (.ref CW)
/-! ### a word's object -/
def wF (ra ta : Addr) (w : Sy.Word) : List (Str × V) := [("reading", .ref ra), ("text", .ref ta), ("left", .int (w.left : Int)), ("right", .int (w.right : Int)), ("cost", .int (w.cost : Int))]
def WordAt (K : PySem.W.Frag) (CW : Addr) (H : Hp) (p : Addr) (w : Sy.Word) : Prop := ∃ dx ra ta, H p = some (.ins CW dx (wF ra ta w)) ∧ SqL K H ra (nv w.reading) ∧ SqL K H ta (nv w.text)
theorem WordAt.mono {K : PySem.W.Frag} {CW : Addr} {H H' : Hp} {p : Addr} {w : Sy.Word} (e : Ex H H') (h : WordAt K CW H p w) : WordAt K CW H' p w := by
  obtain ⟨dx, ra, ta, h1, h2, h3⟩ := h
  exact ⟨dx, ra, ta, e _ _ h1, ex_l e h2, ex_l e h3⟩
theorem lk_here {k : Str} {v : V} {r : List (Str × V)} : List.lookup k ((k, v) :: r) = some v := by
  have e : (k == k) = true := beq_self_eq_true k
  simp only [List.lookup, e]
theorem lk_past {k g : Str} {v : V} {r : List (Str × V)} (h : (k == g) = false) : List.lookup k ((g, v) :: r) = List.lookup k r := by
  simp only [List.lookup, h]
theorem wF_reading (ra ta : Addr) (w : Sy.Word) : (wF ra ta w).lookup ("reading" : Str) = some (.ref ra) := lk_here
theorem wF_text (ra ta : Addr) (w : Sy.Word) : (wF ra ta w).lookup ("text" : Str) = some (.ref ta) := (lk_past (by decide +kernel)).trans lk_here
theorem wF_left (ra ta : Addr) (w : Sy.Word) : (wF ra ta w).lookup ("left" : Str) = some (.int (w.left : Int)) := (lk_past (by decide +kernel)).trans ((lk_past (by decide +kernel)).trans lk_here)
theorem wF_right (ra ta : Addr) (w : Sy.Word) : (wF ra ta w).lookup ("right" : Str) = some (.int (w.right : Int)) := (lk_past (by decide +kernel)).trans ((lk_past (by decide +kernel)).trans ((lk_past (by decide +kernel)).trans lk_here))
theorem wF_cost (ra ta : Addr) (w : Sy.Word) : (wF ra ta w).lookup ("cost" : Str) = some (.int (w.cost : Int)) := (lk_past (by decide +kernel)).trans ((lk_past (by decide +kernel)).trans ((lk_past (by decide +kernel)).trans ((lk_past (by decide +kernel)).trans lk_here)))
/-- a field read -/
theorem ev_fld {K : PySem.W.Frag} {σ : L2.St} {H : Hp} {te : TE} {p C dx : Addr} {fs : List (Str × V)} {f : Str} {v : V} (h : Ev te σ H (.ref p)) (hp : H p = some (.ins C dx fs)) (c : Cls K C) (n : NoAttr K C f) (l : fs.lookup f = some v) : Ev (tFld K te f) σ H v :=
  fun H1 e _ q => h H1 e _ fun H2 e2 => ⟨p, C, dx, fs, v, rfl, e2 _ _ (e _ _ hp), c, n, l, q H2 e2⟩
section
variable {P : Program} {w : World} {K : PySem.W.Frag} {mg : Str → Option Value} {base : Heap} {CW : Addr}
def spIsChar : Sp := fun vs H Q _ => ∃ n : Nat, vs = [.int n] ∧ RetV (.bl (Sy.isChar n)) H Q
theorem scIsChar : FnScope ["number"] ["number"] (defScope sIsChar) := ⟨rfl, rfl, rfl, by decide +kernel, rfl, by decide +kernel, by decide +kernel⟩
theorem ok_isChar {f : Addr} {fd : FuncData} (D : Dn K mg "is_character" sIsChar ["number"] f fd) (T : TxtR K mg CW) : FnOk P w K mg base CX0 1 f fd ["number"] spIsChar := by
  refine D.F.ok scIsChar (fun vs H Q E h => ?_) (fun cdv A outer s H vs Q E hr h => ?_)
  · obtain ⟨n, rfl, _⟩ := h
    rfl
  · obtain ⟨n, rfl, k⟩ := h
    refine ⟨_, pss_cons (ps_if (PW.pt (pw_and (pt_cmpR op_ge (pv 0) (pe_ic T.FS) (nomark _)) (pw_and1 (pt_cmpR op_le (pv 0) (pe_ic T.LS) (nomark _))))) (pss_one (ps_ret pe_bl)) pss_nil)
      (pss_one (ps_ret (pe_cmpR op_lt (pv 0) (pe_ic T.CE) (nomark _)))), ?_⟩
    refine q_when (b := decide ((55296 : Int) ≤ (n : Int)) && decide ((n : Int) ≤ 57343)) ?_ (fun hb H1 e1 => ?_) (fun hb H1 e1 => ?_)
    · refine et_and (et_test (ev_op (ev_var rfl) ev_c rv_I0)) (fun _ => et_test (ev_op (ev_var rfl) ev_c rv_I0))
    · have e : Sy.isChar n = false := by
        simp only [Bool.and_eq_true, decide_eq_true_eq] at hb
        unfold Sy.isChar
        rw [decide_eq_true (by omega : 0xD800 ≤ n), decide_eq_true (by omega : n < 0xE000)]
        simp
      rw [e] at k
      exact k H1 e1
    · have e : Sy.isChar n = decide ((n : Int) < 1114112) := by
        rw [Bool.eq_iff_iff]
        simp [Sy.isChar] at hb ⊢
        omega
      rw [e] at k
      exact (ev_op (ev_var rfl) ev_c rv_I0 : Ev _ _ _ _) H1 e1 _ fun H2 e2 => k H2 (e1.trans e2)
def spMayStand : Sp := fun vs H Q _ => ∃ n : Nat, vs = [.int n] ∧ RetV (.bl (Sy.isSign n)) H Q
theorem scMayStand : FnScope ["number"] ["number"] (defScope sMayStand) := ⟨rfl, rfl, rfl, by decide +kernel, rfl, by decide +kernel, by decide +kernel⟩
theorem ok_mayStand {f f1 : Addr} {fd fd1 : FuncData} (D : Dn K mg "may_stand" sMayStand ["number"] f fd) (T : TxtR K mg CW) (D1 : Dn K mg "is_character" sIsChar ["number"] f1 fd1) (G1 : FnOk P w K mg base CX0 1 f1 fd1 ["number"] spIsChar) :
    FnOk P w K mg base CX0 2 f fd ["number"] spMayStand := by
  refine D.F.ok scMayStand (fun vs H Q E h => ?_) (fun cdv A outer s H vs Q E hr h => ?_)
  · obtain ⟨n, rfl, _⟩ := h
    rfl
  · obtain ⟨n, rfl, k⟩ := h
    have hr1 : Room 1 _ := hr.mono (by decide)
    refine ⟨_, pss_one (ps_ret (pe_and (pe_call G1 hr1 rfl D1.g D1.kp D1.b .nil pass0 (pa_cons (pv 0) pa_nil)) (pe_and (pe_cmpR op_gt (pv 0) (pe_ic T.BL) (nomark _)) (pe_one (pe_cmpR op_ne (pv 0) (pe_ic T.DE) (nomark _)))))), ?_⟩
    have q : Ev (tAndV (tCall spIsChar [] (fun _ _ _ => False) (tCons (tVar 0) tNil)) (tAndV (tOp (rI0 fun i j => .bl (decide (j < i))) (tVar 0) (tC (.int 32))) (tOp rNe (tVar 0) (tC (.int 127))))) (start ["number"] [.int n]) H (.bl (Sy.isChar n && (decide ((32 : Int) < n) && !decide (V.int (n : Int) = V.int 127)))) :=
      ev_andV (call1 (ev_var rfl) fun H1 e1 Q h E => ⟨n, rfl, h⟩) fun _ => ev_andV (ev_op (ev_var rfl) ev_c rv_I0) fun _ => ev_op (ev_var rfl) ev_c (rv_ne rfl)
    refine q H (Ex.refl H) _ fun H1 e1 => ?_
    have e : (Sy.isChar n && (decide ((32 : Int) < n) && !decide (V.int (n : Int) = V.int 127))) = Sy.isSign n := by
      rw [Bool.eq_iff_iff]
      simp [Sy.isSign]
      omega
    rw [e]
    exact k H1 e1
/-- a row that is read -/
def spRow (K : PySem.W.Frag) (g : List Nat → Bool) : Sp := fun vs H Q _ => ∃ (a : Addr) (r : List Nat), vs = [.ref a] ∧ SqL K H a (nv r) ∧ r.length ≤ sizeLine ∧ RetV (.bl (g r)) H Q
theorem scAllMay : FnScope ["row", "number"] ["row"] (defScope sAllMay) := ⟨rfl, rfl, rfl, by decide +kernel, rfl, by decide +kernel, by decide +kernel⟩
theorem nv_mem {r : List Nat} {x : V} (h : x ∈ nv r) : ∃ n, n ∈ r ∧ x = .int (n : Int) := by
  obtain ⟨n, h1, h2⟩ := List.mem_map.mp h
  exact ⟨n, h1, h2.symm⟩
def natOf : V → Nat
  | .int i => i.toNat
  | _ => 0
theorem natOf_int (n : Nat) : natOf (.int (n : Int)) = n := rfl
theorem nv_map {β : Type} (r : List Nat) (g : Nat → β) : (nv r).map (fun x => g (natOf x)) = r.map g := by
  rw [List.map_map]
  rfl
theorem nv_length (r : List Nat) : (nv r).length = r.length := List.length_map ..
theorem ok_allMay {f f1 : Addr} {fd fd1 : FuncData} (D : Dn K mg "all_may_stand" sAllMay ["row"] f fd) (T : TxtR K mg CW) (D1 : Dn K mg "may_stand" sMayStand ["number"] f1 fd1) (G1 : FnOk P w K mg base CX0 2 f1 fd1 ["number"] spMayStand) :
    FnOk P w K mg base CX0 3 f fd ["row"] (spRow K fun r => r.all Sy.isSign) := by
  refine D.F.ok scAllMay (fun vs H Q E h => ?_) (fun cdv A outer s H vs Q E hr h => ?_)
  · obtain ⟨a, r, rfl, _⟩ := h
    rfl
  · obtain ⟨a, r, rfl, hS, hl, k⟩ := h
    have hr1 : Room 2 _ := hr.mono (by decide)
    refine ⟨_, pss_one (ps_ret (pe_callB (cr_all rfl) (by rfl) T.all (by decide +kernel) (pa_cons (pe_lc (own := [("number", 1)]) (g := gName 1) (tt := tYes) rfl scAllMay.nd (pi_list (pv 0)) (blkOk_by (N := ["row", "number"]) (sc := defScope sAllMay) (by decide +kernel))
      (fun _ _ _ _ _ => pg_name (i := 1) scAllMay.nd rfl (Or.inl rfl)) (fun _ _ _ _ _ => pts_nil) (fun _ _ _ _ _ => pe_call G1 hr1 rfl D1.g D1.kp D1.b .nil pass0 (pa_cons (pv 1) pa_nil))) pa_nil))), ?_⟩
    have c := el_comp (K := K) (xs := nv r) (a := a) (σ := start ["row", "number"] [V.ref a]) (H := H) (j := 1) (vs := [1]) (tl := tVar 0) (t := tYes) (te := tCall spMayStand [] (fun _ _ _ => False) (tCons (tVar 1) tNil)) (fun _ => true) (fun x => .bl (Sy.isSign (natOf x))) (ev_var rfl) hS (by rw [nv_length]; exact hl) (fun x => rfl)
      (fun x H1 _ _ => et_yes) (fun x H1 e1 hx _ => by
        obtain ⟨n, _, rfl⟩ := nv_mem hx
        exact call1 (ev_var rfl) fun H2 e2 Q h E => ⟨n, rfl, h⟩)
    rw [filter_true, nv_map r fun n => V.bl (Sy.isSign n)] at c
    have c2 := ev_all (K := K) (bs := r.map Sy.isSign) (by rw [List.map_map]; exact c)
    rw [all_map] at c2
    exact c2 H (Ex.refl H) _ fun H1 e1 => k H1 e1
def isRowB (r : List Nat) : Bool := decide (1 ≤ r.length) && (decide (r.length ≤ 32) && r.all Sy.isSign)
theorem scIsRow : FnScope ["row"] ["row"] (defScope sIsRow) := ⟨rfl, rfl, rfl, by decide +kernel, rfl, by decide +kernel, by decide +kernel⟩
end
end So
/-! < of data at any depth; sorted(xs, key=f), f an own def whose keys may hold lists that stood before. -/
namespace So
open PySem PySem.Spec PyProof.Rows L2 Evl
/-- x < y, both data that can be compared place by place -/
def rLtD (K : PySem.W.Frag) : R2 := fun x y H Q => ∃ d e, Dp K H x d ∧ Dp K H y e ∧ PySem.W.alike d e = true ∧ d ≠ .none ∧ d.depth ≤ 64 ∧ Q (.bl (PySem.W.dataLt d e)) H
theorem op_ltD {X : Cx} (hu : X.A.units + 64 < cLine) : OpR X (compareOp .Lt) (rLtD X.K) := by
  intro pins s σ H x y v u Q I rx ry h
  obtain ⟨d, e, hd, he, ha, hn, hz, q⟩ := h
  obtain ⟨as, r1⟩ := Dp.reads I d x v hd rx
  obtain ⟨bs, r2⟩ := Dp.reads I e y u he ry
  have hm : min d.depth e.depth ≤ 64 := Nat.le_trans (Nat.min_le_left _ _) hz
  exact PySem.W.rcLt_alike d e X.A s v u as bs r1 r2 ha hn (by omega) X.prog X.w _ _ ⟨.bl _, H, I, rfl, q⟩
mutual
theorem dp_mono {K : PySem.W.Frag} {H H' : Hp} (e : Ex H H') : ∀ (d : PyData) (v : V), Dp K H v d → Dp K H' v d
  | .none, _, h => by
    cases h
    exact .non
  | .bool b, _, h => by
    cases h
    exact .bl b
  | .int i, _, h => by
    cases h
    exact .int i
  | .str x, _, h => by
    cases h
    exact .str x
  | .list ds, _, h => by
    cases h with
    | lst hs ha => exact .lst (ex_l e hs) (dpAll_mono e ds _ ha)
  | .tuple ds, _, h => by
    cases h with
    | tup hs ha => exact .tup (ex_t e hs) (dpAll_mono e ds _ ha)
  | .dict _, _, h => by cases h
theorem dpAll_mono {K : PySem.W.Frag} {H H' : Hp} (e : Ex H H') : ∀ (ds : List PyData) (vs : List V), DpAll K H vs ds → DpAll K H' vs ds
  | [], _, h => by
    cases h
    exact .nil
  | d :: ds, _, h => by
    cases h with
    | cons h1 h2 => exact .cons (dp_mono e d _ h1) (dpAll_mono e ds _ h2)
end
/-- the same context within two built-ins, nothing may be raised -/
abbrev inTwo (X : Cx) : Cx := { X with A := X.A.in1.in1, xe := fun _ _ => False }
theorem inv_two {X : Cx} {pins : List (Addr × Obj)} {σ : L2.St} {H : Hp} {s : Shared} (I : Inv X pins σ H s) : Inv (inTwo X) pins σ H s :=
  ⟨⟨I.ok.mod, I.ok.kind, I.ok.glob, I.ok.blt, I.ok.above, I.ok.inj, I.ok.has, I.ok.cab, I.ok.hd, I.ok.frames, I.ok.stk, I.ok.exf, I.ok.bs, I.ok.bsz, I.ok.noex, I.ok.exfs, I.ok.funs, I.ok.frf⟩, I.os, I.bare, I.base, I.loc, I.cell, I.free, I.freeC, I.pin, I.hok, I.len⟩
theorem inv_one {X : Cx} {pins : List (Addr × Obj)} {σ : L2.St} {H : Hp} {s : Shared} (I : Inv (inTwo X) pins σ H s) (hd : X.calm = true → X.A.handled = none) (hf : X.A.frames = some X.stack) : Inv X pins σ H s :=
  ⟨⟨I.ok.mod, I.ok.kind, I.ok.glob, I.ok.blt, I.ok.above, I.ok.inj, I.ok.has, I.ok.cab, hd, hf, I.ok.stk, I.ok.exf, I.ok.bs, I.ok.bsz, I.ok.noex, I.ok.exfs, I.ok.funs, I.ok.frf⟩, I.os, I.bare, I.base, I.loc, I.cell, I.free, I.freeC, I.pin, I.hok, I.len⟩
def rSortedF (K : PySem.W.Frag) (fa : Addr) (sp : Sp) : List V → List V → Hp → VK → Prop := fun vs zs H Q => ∃ (l : Addr) (ps : List (V × PyData)), vs = [.ref l] ∧ zs = [.ref fa] ∧ SqL K H l (ps.map Prod.fst) ∧
  PySem.W.AllAlike (ps.map Prod.snd) ∧ PySem.W.Sortable (ps.map Prod.snd) ∧ (∀ p ∈ ps, p.2.depth ≤ 32) ∧
  (∀ p ∈ ps, ∀ H1, Ex H H1 → ∀ Q' : VK, (∀ y H2, Ex H1 H2 → Dp K H2 y p.2 → Q' y H2) → sp [p.1] H1 Q' E0) ∧
  ∀ q H2, H q = none → Ex H H2 → H2 q = some (.lst ((ps.mergeSort (PySem.W.dataLe false Prod.snd)).map Prod.fst)) → Q (.ref q) H2
/-- where the loop over the keys stands: the store's object and the list's are pinned -/
def KeyTurn (X : Cx) (pins : List (Addr × Obj)) (σ : L2.St) (H : Hp) (kS a : Addr) (e1 : Nat) (ks : List PyData) (s' : Shared) : Prop :=
  ∃ (Hi : Hp) (kA : Array Value) (e : Nat) (ys : List V), Inv X ((kS, seqObj "list" kA e) :: (a, seqObj "list" #[] e1) :: pins) σ Hi s' ∧ Ex H Hi ∧ Vals ys kA.toList ∧ PySem.W.EachIs (fun y d => Dp X.K Hi y d) ys ks
theorem each_app1 {α β : Type} {R : α → β → Prop} {x : α} {y : β} (h : R x y) : ∀ {as : List α} {bs : List β}, PySem.W.EachIs R as bs → PySem.W.EachIs R (as ++ [x]) (bs ++ [y])
  | _, _, .nil => .cons h .nil
  | _, _, .cons k t => .cons k (each_app1 h t)
theorem each_reads {X : Cx} {pins : List (Addr × Obj)} {σ : L2.St} {H : Hp} {s : Shared} (I : Inv X pins σ H s) : ∀ {ys : List V} {us : List Value} {ds : List PyData}, Vals ys us → PySem.W.EachIs (fun y d => Dp X.K H y d) ys ds → PySem.W.EachIs (fun v d => ∃ as, Reads s.heap v d as) us ds
  | _, _, _, .nil, .nil => .nil
  | _, _, _, .cons r t, .cons h u => .cons (Dp.reads I _ _ _ h r) (each_reads I t u)
theorem vals_each {β : Type} : ∀ {ps : List (V × β)} {us : List Value}, Vals (ps.map Prod.fst) us → PySem.W.EachIs (fun v (p : V × β) => RelV p.1 v) us ps
  | [], _, h => by
    cases h
    exact .nil
  | _ :: _, _, h => by
    cases h with
    | cons r t => exact .cons r (vals_each t)
theorem each_vals {β : Type} : ∀ {us : List Value} {ps : List (V × β)}, PySem.W.EachIs (fun v (p : V × β) => RelV p.1 v) us ps → Vals (ps.map Prod.fst) us
  | _, _, .nil => .nil
  | _, _, .cons r t => .cons r (each_vals t)
theorem vals_app1 {x : V} {u : Value} (r : RelV x u) {xs : List V} {us : List Value} (h : Vals xs us) : Vals (xs ++ [x]) (us ++ [u]) := h.append (.cons r .nil)
section
variable {X : Cx} {j : Nat} {fa : Addr} {fd : FuncData} {pn : List Str} {sp : Sp} {pins : List (Addr × Obj)} {σ : L2.St} {H : Hp} {kS a : Addr} {e1 : Nat} {zs : List (V × PyData)} {its : List Value}
/-- an object of ours that is pinned is changed and pinned anew -/
theorem repin {s : Shared} {o o' : Obj} {h' : Heap} {t' : Nat} (I : Inv X ((kS, o) :: pins) σ H s) (hs : Heap.SameBut kS s.heap h') (ho : h'.get? kS = some o') (hne : ∀ p ∈ X.pn ++ pins, p.1 ≠ kS) (hz : X.s_0.heap.objs.size ≤ kS) (hc : ∀ x c, X.env.cells.lookup x = some c → c ≠ kS) (hd : ∀ v, o'.data ≠ .cell v) :
    Inv X ((kS, o') :: pins) σ H { s with heap := h', toks := t' } := by
  have p0 := I.pin (kS, o) (List.mem_append_right _ List.mem_cons_self)
  have I2 : Inv X pins σ H s := I.pins_of fun p hp => I.pin p (List.mem_append_right _ (List.mem_cons_of_mem _ hp))
  have I3 : Inv X pins σ H { s with heap := h', toks := t' } := I2.turned (it := kS) (fun b ob hb q => (hs.2 b hb).trans q) p0.2.1 p0.2.2.1 (.inr hz) hc hne
  refine I3.pins_of fun p hp => ?_
  rcases List.mem_cons.mp hp with rfl | hp
  · exact ⟨ho, p0.2.1, p0.2.2.1, p0.2.2.2.1, hd⟩
  · exact I3.pin p (List.mem_append_right _ hp)
/-- what is asked of the key's calls: the value at fa, called within sorted, gives what stands for the item's key -/
def KeyStep (X : Cx) (σ : L2.St) (fa : Addr) (pins : List (Addr × Obj)) (H : Hp) (zs : List (V × PyData)) : Prop :=
  ∀ p ∈ zs, ∀ (pins' : List (Addr × Obj)) (Hi : Hp) (s' : Shared) (u : Value), Inv (inTwo X) pins' σ Hi s' → (∀ q ∈ pins, q ∈ pins') → Ex H Hi → L2.RelV p.1 u →
    wpAny (model X.prog X.w) X.A.in1.in1 (call (.ref fa) [u]) (EP (inTwo X) pins' σ fun y H2 => Ex Hi H2 ∧ Dp X.K H2 y p.2) (fun _ _ => False) s'
theorem key_loop {s0 : Shared} {R : PySem.Fin → Shared → Prop} {E : Value → Shared → Prop} (hr : Room (j + 2) X.A) (pins0 : List (Addr × Obj)) (hp0 : ∀ q ∈ pins0, q ∈ pins)
    (I0 : Inv (inTwo X) ((kS, seqObj "list" #[] 0) :: (a, seqObj "list" #[] e1) :: pins) σ H s0) (rv : Vals (zs.map Prod.fst) its) (hz : its.length ≤ sizeLine) (hne : ∀ p ∈ X.pn ++ (a, seqObj "list" #[] e1) :: pins, p.1 ≠ kS)
    (hkz : X.s_0.heap.objs.size ≤ kS) (hkc : ∀ x c, X.env.cells.lookup x = some c → c ≠ kS)
    (hal : PySem.W.AllAlike (zs.map Prod.snd)) (hsk : PySem.W.Sortable (zs.map Prod.snd)) (hd : ∀ p ∈ zs, p.2.depth ≤ 32)
    (turn : KeyStep X σ fa pins0 H zs)
    (fin : ∀ (Hn : Hp) (s' : Shared) (h' : Heap) (tk c : Nat) (out : List Value), Inv (inTwo X) pins σ Hn s' → Ex H Hn → (∃ oa, s'.heap.get? a = some oa) → Hn a = none → Hn kS = none → (∀ b o, b ≠ a → b ≠ kS → s'.heap.get? b = some o → h'.get? b = some o) →
      h'.get? a = some (seqObj "list" out.toArray c) → Vals ((zs.mergeSort (PySem.W.dataLe false Prod.snd)).map Prod.fst) out → R (.done (.ret .none)) { s' with heap := h', toks := tk }) :
    wpAny (model X.prog X.w) X.A.in1.in1 (ksk_rest a (.ref fa) false its.toArray e1 (.ref kS)) R E s0 := by
  have hr2 : Room j X.A.in1.in1 := Room.in1 (k := j) (Room.in1 (k := j + 1) hr)
  have hlx : zs.length = its.length := by
    have := rv.length
    rw [List.length_map] at this
    exact this
  have ne_ak : a ≠ kS := hne (a, seqObj "list" #[] e1) (List.mem_append_right _ List.mem_cons_self)
  unfold ksk_rest
  apply wpAny_bind; apply wpAny_rule
  rw [List.forIn_toArray]
  apply wpAny_bind
  refine ksk_fold (fun i s' => KeyTurn (inTwo X) pins σ H kS a e1 ((zs.map Prod.snd).take i) s') its 0 s0 ⟨H, #[], 0, [], I0, Ex.refl H, .nil, by rw [List.take_zero]; exact .nil⟩ ?_ ?_
  · rintro i u s' hu ⟨Hi, kA, e, ys, I, eH, rk, ek⟩
    rw [Nat.zero_add] at ek ⊢
    have hi : i < its.length := (List.getElem?_eq_some_iff.mp hu).1
    obtain ⟨⟨x, kx⟩, hx⟩ : ∃ x, zs[i]? = some x := ⟨_, List.getElem?_eq_getElem (by omega)⟩
    have rx : RelV x u := by
      obtain ⟨u', h1, h2⟩ := rv.get (i := i) (x := x) (by rw [List.getElem?_map, hx]; rfl)
      rw [hu] at h1; cases h1
      exact h2
    have hxm : (x, kx) ∈ zs := List.mem_of_getElem? hx
    have hkx : (zs.map Prod.snd)[i]? = some kx := by rw [List.getElem?_map, hx]; rfl
    have lk : kA.size ≤ its.length := by
      have := rk.length
      have h2 := ek.length
      rw [List.length_take, List.length_map] at h2
      rw [← Array.length_toList]
      omega
    apply wpAny_bind; apply wpAny_attempt
    refine wpAny_mono (turn (x, kx) hxm _ Hi s' u I (fun q hq => List.mem_cons_of_mem _ (List.mem_cons_of_mem _ (hp0 q hq))) eH rx) ?_ fun _ _ z => z.elim
    rintro v s'' ⟨y, H2, I2, ry, eH2, dy⟩
    have pk := I2.pin (kS, seqObj "list" kA e) (List.mem_append_right _ List.mem_cons_self)
    have sb := Heap.SameBut.update s''.heap kS (Obj.mapSeq (·.push v))
    obtain ⟨c2, hc2⟩ : ∃ c2, (s''.heap.update kS (Obj.mapSeq (·.push v))).get? kS = some (seqObj "list" (kA.push v) c2) := ⟨_, get?_update_seq pk.1 (·.push v)⟩
    have I3 := repin (t' := s''.toks) I2 sb hc2 hne hkz hkc (fun v z => nomatch z)
    dsimp only
    apply wpAny_bind; refine listUpdate_at pk.1 rfl ?_ (Nat.le_trans lk hz) (Nat.le_trans (Nat.le_of_eq (Array.size_push ..)) (Nat.succ_le_succ (Nat.le_trans lk hz)))
    refine wpAny_pure ⟨rfl, H2, kA.push v, c2, ys ++ [y], I3, eH.trans eH2, ?_, ?_⟩
    · rw [Array.toList_push]
      exact vals_app1 ry rk
    · rw [take_succ_of hkx]
      exact each_app1 dy (ek.mono fun y d q => dp_mono eH2 d y q)
  · rintro s' ⟨Hn, kA, e, ys, I, eH, rk, ek⟩
    have et : (zs.map Prod.snd).take (0 + its.length) = zs.map Prod.snd := List.take_of_length_le (by rw [List.length_map]; omega)
    rw [et] at ek
    have pk := I.pin (kS, seqObj "list" kA e) (List.mem_append_right _ List.mem_cons_self)
    have pa := I.pin (a, seqObj "list" #[] e1) (List.mem_append_right _ (List.mem_cons_of_mem _ List.mem_cons_self))
    have er := each_reads I rk ek
    have hsz : kA.size = its.length := by
      have := er.length
      rw [Array.length_toList, List.length_map] at this
      omega
    have I' : Inv (inTwo X) pins σ Hn s' := I.pins_of fun p hp => I.pin p (List.mem_append_right _ (List.mem_cons_of_mem _ (List.mem_cons_of_mem _ hp)))
    apply wpAny_bind; refine listItems_at pk.1 rfl ?_
    have hu : ∀ d, d ∈ zs.map Prod.snd → X.A.in1.in1.units + d.depth < cLine := by
      intro d hdm
      obtain ⟨x, hx, rfl⟩ := List.mem_map.mp hdm
      have h1 := hd x hx
      have h2 := hr2.units
      omega
    have S := PySem.W.SortsAt.data (prog := X.prog) (w := X.w) (A := X.A.in1.in1) (s := s') er hal hsk hu
    refine PySem.W.keyH_end (κ := PySem.W.dataKind s'.heap (zs.map Prod.snd)) (h₁ := PySem.W.hideAll s'.heap [kS]) (b := false) (fun b o _ q => PySem.W.of_hideAll _ q) (PySem.W.hideAll_none _ List.mem_cons_self) pk.1 pa.1 ne_ak.symm S hsz hz ?_
    intro h' tk c kp hg
    refine fin Hn s' h' tk c _ I' eH ⟨_, pa.1⟩ pa.2.1 pk.2.1 (fun b o h1 h2 q => kp b o h1 (PySem.W.hideAll_get _ q (by simpa using h2))) hg ?_
    exact each_vals (PySem.W.keyedOut_each (rev := false) (Prod.snd : V × PyData → PyData) ⟨s'.heap, kA.toList, hal, rfl, er⟩ (vals_each rv))
/-- sorted(xs, key=what stands at fa), called -/
theorem sort_run {l : Addr} {ps : List (V × PyData)} {s : Shared} {Q : VK} (hr : Room (j + 2) X.A) (I : Inv X pins σ H s) (hs : SqL X.K H l (ps.map Prod.fst)) (hal : PySem.W.AllAlike (ps.map Prod.snd)) (hsk : PySem.W.Sortable (ps.map Prod.snd)) (hd : ∀ p ∈ ps, p.2.depth ≤ 32)
    (turn : KeyStep X σ fa pins H ps) (q : ∀ q H2, H q = none → Ex H H2 → H2 q = some (.lst ((ps.mergeSort (PySem.W.dataLe false Prod.snd)).map Prod.fst)) → Q (.ref q) H2) :
    wpAny (model X.prog X.w) X.A (call (.builtin "sorted") [.ref l] [(Str.ofString "key", .ref fa)]) (EP X pins σ Q) X.xe s := by
  obtain ⟨its, rv, hl, hz⟩ := I.list hs
  have hz2 : its.length ≤ sizeLine := by rw [← rv.length]; exact hz
  refine PySem.W.sorted_of_sort hl.isList hz2 (ksk_s1 _ _) (fun _ => ksk_l1 _ _) fun E' => ?_
  rw [ksk_t1]
  have ho := PySem.W.copyHeap_at s.heap its
  obtain ⟨e1, ho1⟩ : ∃ e1, ((PySem.W.copyHeap s.heap its).update (s.heap.objs.size + 1) (Obj.mapSeq fun _ => #[])).get? (s.heap.objs.size + 1) = some (seqObj "list" #[] e1) := ⟨_, get?_update_seq ho fun _ => #[]⟩
  have hcs : (PySem.W.copyHeap s.heap its).objs.size = s.heap.objs.size + 2 := by
    unfold PySem.W.copyHeap
    rw [size_push', Heap.size_update, size_push']
  unfold ksk_tree
  apply wpAny_bind; refine listItems_at ho rfl ?_
  apply wpAny_bind; refine listUpdate_at ho rfl ?_ (by rw [List.size_toArray]; exact hz2) (Nat.zero_le _)
  apply wpAny_bind; refine seqEpoch_at ho1 rfl ?_
  apply wpAny_bind; refine wpAny_newTuple ?_ (by show its.length ≤ _; exact hz2)
  apply wpAny_bind; refine wpAny_newList ?_ (Nat.zero_le _)
  apply wpAny_holding
  -- the heap now: all that was, the copy, the two new ones
  have hks : (((PySem.W.copyHeap s.heap its).update (s.heap.objs.size + 1) (Obj.mapSeq fun _ => (#[] : Array Value))).push (seqObj "tuple" its.toArray 0)).objs.size = s.heap.objs.size + 3 := by
    rw [size_push', Heap.size_update, hcs]
  have kept : ∀ b o, s.heap.get? b = some o → ((((PySem.W.copyHeap s.heap its).update (s.heap.objs.size + 1) (Obj.mapSeq fun _ => (#[] : Array Value))).push (seqObj "tuple" its.toArray 0)).push (seqObj "list" #[] 0)).get? b = some o :=
    fun b o e => PySem.W.sorting_copy_old e
  have I1 := I.kept (t' := s.toks) kept
  have fresh : ∀ b, s.heap.objs.size ≤ b → H b = none := fun b hb => I.hok.fresh hb
  have nL : ∀ b, s.heap.objs.size ≤ b → b ≠ X.env.locals := fun b hb z => by
    subst z
    exact absurd (Nat.lt_of_lt_of_le I.lt hb) (Nat.lt_irrefl _)
  have nS : ∀ b, s.heap.objs.size ≤ b → X.s_0.heap.objs.size ≤ b := fun b hb => Nat.le_trans I.sz hb
  have nC : ∀ b, s.heap.objs.size ≤ b → ∀ x c, X.env.cells.lookup x = some c → c ≠ b := fun b hb x c e z => by
    obtain ⟨v, o, ho, _⟩ := I.cell x c e
    subst z
    exact absurd (Nat.lt_of_lt_of_le (Heap.lt_size ho) hb) (Nat.lt_irrefl _)
  have nP : ∀ b, s.heap.objs.size ≤ b → ∀ p ∈ X.pn ++ pins, p.1 ≠ b := fun b hb p hp z => by
    subst z
    exact absurd (Nat.lt_of_lt_of_le (Heap.lt_size (I.pin p hp).1) hb) (Nat.lt_irrefl _)
  have hA : s.heap.objs.size ≤ s.heap.objs.size + 1 := Nat.le_succ _
  have hK : s.heap.objs.size ≤ s.heap.objs.size + 3 := by omega
  have I2 := I1.pins_of (pins' := (s.heap.objs.size + 3, seqObj "list" #[] 0) :: (s.heap.objs.size + 1, seqObj "list" #[] e1) :: pins) fun p hp => by
    rcases List.mem_cons.mp hp with rfl | hp
    · refine ⟨?_, fresh _ hK, nL _ hK, I.nofs hK, fun v z => nomatch z⟩
      rw [← hks]
      exact Heap.get?_push_size _ rfl
    · rcases List.mem_cons.mp hp with rfl | hp
      · exact ⟨Heap.get?_push_of_some _ (Heap.get?_push_of_some _ ho1), fresh _ hA, nL _ hA, I.nofs hA, fun v z => nomatch z⟩
      · exact I1.pin p (List.mem_append_right _ hp)
  rw [hks]
  refine key_loop (s0 := { s with heap := _ }) (kS := s.heap.objs.size + 3) hr pins (fun _ z => z) (inv_two I2) rv hz2 ?_ (nS _ hK) (nC _ hK) hal hsk hd turn ?_
  · intro p hp
    rcases List.mem_append.mp hp with hp | hp
    · exact nP _ hK p (List.mem_append_left _ hp)
    · rcases List.mem_cons.mp hp with rfl | hp
      · show s.heap.objs.size + 1 ≠ s.heap.objs.size + 3
        omega
      · exact nP _ hK p (List.mem_append_right _ hp)
  · intro Hn s' h' tk c out In eH hoa na nk keep hg ro
    refine ⟨rfl, .ref (s.heap.objs.size + 1), upd Hn (s.heap.objs.size + 1) (.lst ((ps.mergeSort (PySem.W.dataLe false Prod.snd)).map Prod.fst)), ?_, rfl, q _ _ (fresh _ hA) (eH.trans (Ex.new na)) upd_same⟩
    have hzo : ((ps.mergeSort (PySem.W.dataLe false Prod.snd)).map Prod.fst).length ≤ sizeLine := by
      rw [List.length_map] at hz ⊢
      rw [List.length_mergeSort]
      exact hz
    have In1 : Inv X pins σ Hn s' := inv_one In I.ok.hd I.ok.frames
    have untr : ∀ b u, Hn b = some u → b ≠ s.heap.objs.size + 1 ∧ b ≠ s.heap.objs.size + 3 := fun b u e => ⟨ne_of_none e na, ne_of_none e nk⟩
    refine In1.step (g' := s'.gens) (d' := s'.drawn) (ch := [s.heap.objs.size + 1, s.heap.objs.size + 3]) (fun b hb => ?_) (fun b o _ _ hc e _ => ?_) (fun b o _ _ hc e _ => ⟨o.slots, ?_⟩) (fun b o hc e n => ?_) (fun b o hc e => ⟨o, ?_⟩) (fun b ys e => ?_) (fun b o u e => ?_) (fun b ys e => ⟨#[], ?_⟩) (fun m hm => ?_) (fun b u e => ?_) In.bare
    · rcases List.mem_cons.mp hb with rfl | hb
      · exact ⟨.inr (nS _ hA), nL _ hA, nC _ hA, nP _ hA⟩
      · rw [List.mem_singleton.mp hb]
        exact ⟨.inr (nS _ hK), nL _ hK, nC _ hK, nP _ hK⟩
    · exact keep b o (fun z => hc (by simp [z])) (fun z => hc (by simp [z])) e
    · exact keep b o (fun z => hc (by simp [z])) (fun z => hc (by simp [z])) e
    · rw [upd_ne (fun z => hc (by simp [z]))]
      exact n
    · exact keep b o (fun z => hc (by simp [z])) (fun z => hc (by simp [z])) e
    · rw [upd_ne (untr b _ e).1]
      exact e
    · rw [upd_ne (untr b _ e).1]
      exact e
    · rw [upd_ne (untr b _ e).1, e]
      simp
    · obtain ⟨o, es, ep, ho', r'⟩ := hm
      exact ⟨o, es, ep, keep _ o (nL _ hA).symm (nL _ hK).symm ho', r'⟩
    · by_cases hb : b = s.heap.objs.size + 1
      · subst hb
        rw [upd_same] at e
        cases e
        exact ⟨hzo, out, c, ro, hg⟩
      · rw [upd_ne hb] at e
        refine (In.hok b u e).stay (fun c' v hc' q' => ?_) (fun c' q' => ?_) (fun c' ys q' => ?_)
        · rcases hc' with rfl | hc'
          · exact keep _ v (untr _ _ e).1 (untr _ _ e).2 q'
          · exact keep _ v (untr _ _ hc').1 (untr _ _ hc').2 q'
        · rw [upd_ne (untr _ _ q').1]
          exact q'
        · rw [upd_ne (untr _ _ q').1]
          exact q'
/-- sorted(xs, key=f) -/
theorem cr_sortedF (F : FnOk X.prog X.w X.K X.mg X.base CX0 j fa fd pn sp) (hr : Room (j + 2) X.A) (hb : Binds X.K fd pn []) : CallRK X (.builtin "sorted") [Str.ofString "key"] (rSortedF X.K fa sp) := by
  intro pins s σ H vs zs us ws Q I r rz h
  obtain ⟨l, ps, rfl, rfl, hs, hal, hsk, hd, turn, q⟩ := h
  obtain rfl := Vals.ref1 r
  obtain ⟨w1, rfl, w2⟩ := vals1 rz
  obtain rfl : w1 = Value.ref fa := w2
  have hr2 : Room j X.A.in1.in1 := Room.in1 (k := j) (Room.in1 (k := j + 1) hr)
  exact sort_run hr I hs hal hsk hd (fun p hp pins' Hi s' u I' _ eH rx => run_fn (X := inTwo X) (E := E0) (vs := [p.1]) (us := [u]) (dvs := []) (Q := fun y H2 => Ex Hi H2 ∧ Dp X.K H2 y p.2) F hr2 hb .nil pass0 I' (.cons rx .nil) (turn _ hp Hi eH _ fun y H2 q1 q2 => ⟨q1, q2⟩)) q
end
end So
/-! words as data: == of rows, the order of words -/
namespace So
open PySem PySem.Spec PyProof.Rows L2 Evl
/-- a row of numbers as data -/
def rowD (r : List Nat) : PyData := .list (r.map fun (n : Nat) => PyData.int (n : Int))
theorem dpAll_nv {K : PySem.W.Frag} {H : Hp} : ∀ r : List Nat, DpAll K H (nv r) (r.map fun (n : Nat) => PyData.int (n : Int))
  | [] => .nil
  | n :: r => .cons (.int n) (dpAll_nv r)
theorem dp_row {K : PySem.W.Frag} {H : Hp} {a : Addr} {r : List Nat} (h : SqL K H a (nv r)) : Dp K H (.ref a) (rowD r) := .lst h (dpAll_nv r)
theorem eqv_row : ∀ r t : List Nat, PyData.eqv (rowD r) (rowD t) = (r == t) := by
  have all : ∀ r t : List Nat, PyData.eqvAll (r.map fun (n : Nat) => PyData.int (n : Int)) (t.map fun (n : Nat) => PyData.int (n : Int)) = (r == t) := by
    intro r
    induction r with
    | nil =>
      intro t
      cases t with
      | nil => rfl
      | cons b t => simp [PyData.eqvAll]
    | cons a r ih =>
      intro t
      cases t with
      | nil => simp [PyData.eqvAll]
      | cons b t =>
        rw [List.map_cons, List.map_cons, PyData.eqvAll, ih t]
        rw [Bool.eq_iff_iff]
        simp [PyData.eqv]
        omega
  intro r t
  unfold rowD
  rw [PyData.eqv, all]
theorem canLay_row (r : List Nat) : (rowD r).canLay0 = true := by
  unfold rowD
  rw [PyData.canLay0]
  induction r with
  | nil => rfl
  | cons a r ih => rw [List.map_cons, PyData.canLayAll0, ih]; rfl
theorem depthAll_ints (r : List Nat) : PyData.depthAll (r.map fun (n : Nat) => PyData.int (n : Int)) = 0 := by
  induction r with
  | nil => rfl
  | cons a r ih => rw [List.map_cons, PyData.depthAll, ih]; rfl
theorem depth_row (r : List Nat) : (rowD r).depth = 1 := by
  unfold rowD
  rw [PyData.depth, depthAll_ints]
theorem shaped_row (r : List Nat) : SeqAt.shaped (rowD r) = true := by
  unfold SeqAt.shaped
  rw [canLay_row, depth_row]
  rfl
theorem alikeAll_ints : ∀ r t : List Nat, PySem.W.alikeAll (r.map fun (n : Nat) => PyData.int (n : Int)) (t.map fun (n : Nat) => PyData.int (n : Int)) = true
  | [], _ => by simp [PySem.W.alikeAll]
  | _ :: _, [] => by simp [PySem.W.alikeAll]
  | a :: r, b :: t => by
    rw [List.map_cons, List.map_cons, PySem.W.alikeAll, alikeAll_ints r t]
    simp [PySem.W.alike]
theorem alike_row (r t : List Nat) : PySem.W.alike (rowD r) (rowD t) = true := by
  unfold rowD
  rw [PySem.W.alike]
  exact alikeAll_ints r t
theorem rowLt_nats : ∀ r t : List Nat, PySem.W.rowLt (r.map fun (n : Nat) => PyData.int (n : Int)) (t.map fun (n : Nat) => PyData.int (n : Int)) = Sy.before r t := by
  intro r t
  have h := PySem.W.dataLt_ints (r.map fun (n : Nat) => (n : Int)) (t.map fun (n : Nat) => (n : Int))
  rw [List.map_map, List.map_map] at h
  have h' : PySem.W.rowLt (r.map fun (n : Nat) => PyData.int (n : Int)) (t.map fun (n : Nat) => PyData.int (n : Int)) = decide ((r.map fun (n : Nat) => (n : Int)) < (t.map fun (n : Nat) => (n : Int))) := h
  rw [h']
  have key : ∀ r t : List Nat, ((r.map fun (n : Nat) => (n : Int)) < (t.map fun (n : Nat) => (n : Int))) ↔ Sy.before r t = true := by
    intro r
    induction r with
    | nil =>
      intro t
      cases t with
      | nil => simp [Sy.before]
      | cons b t => simp [Sy.before]
    | cons a r ih =>
      intro t
      cases t with
      | nil => simp [Sy.before]
      | cons b t =>
        have e1 : ((a : Int) < (b : Int)) ↔ a < b := by omega
        have e2 : ((a : Int) = (b : Int)) ↔ a = b := by omega
        rw [List.map_cons, List.map_cons, List.cons_lt_cons_iff, ih t, bef_cons, e1, e2]
  rw [Bool.eq_iff_iff, decide_eq_true_eq]
  exact key r t
theorem dataLt_row (r t : List Nat) : PySem.W.dataLt (rowD r) (rowD t) = Sy.before r t := by
  unfold rowD
  rw [PySem.W.dataLt_list]
  exact rowLt_nats r t
/-- what words are put in order by -/
def keyD (w : Sy.Word) : PyData := .tuple [rowD w.reading, .int (w.cost : Int), rowD w.text]
theorem alike_key (a b : Sy.Word) : PySem.W.alike (keyD a) (keyD b) = true := by
  unfold keyD
  simp [PySem.W.alike, PySem.W.alikeAll, alike_row]
theorem depth_key (a : Sy.Word) : (keyD a).depth = 2 := by
  unfold keyD
  simp [PyData.depth, PyData.depthAll, depth_row]
theorem dataLt_key (a b : Sy.Word) : PySem.W.dataLt (keyD a) (keyD b) = a.before b := by
  unfold keyD
  rw [PySem.W.dataLt_tuple, PySem.W.dataLt_cons (alike_row _ _), PySem.W.dataLt_cons (by simp [PySem.W.alike]), PySem.W.dataLt_cons (alike_row _ _), eqv_row, eqv_row, dataLt_row, dataLt_row, PySem.W.dataLt_int]
  have e0 : PyProof.Rows.lexLt PyProof.Rows.itemOrd (PySem.W.keyToksAll []) (PySem.W.keyToksAll []) = false := PyProof.Rows.lex_irrefl _
  rw [e0]
  rw [Bool.eq_iff_iff, wbef_iff]
  by_cases h1 : a.reading = b.reading
  · by_cases h2 : a.cost = b.cost
    · by_cases h3 : a.text = b.text
      · simp [PyData.eqv, h1, h2, h3, bef_irr]
      · simp [PyData.eqv, h1, h2, h3, bef_irr]
    · have : ¬ ((a.cost : Int) = (b.cost : Int)) := by omega
      simp [PyData.eqv, h1, h2, bef_irr]
      intro z
      exact absurd z this
  · simp [h1]
end So
/-! rules.py, the rest -/
namespace So
open PySem PySem.Spec PyProof.Rows L2 Evl
theorem put_here {f : Str} {v x : V} {r : List (Str × V)} : putF f v ((f, x) :: r) = (f, v) :: r := if_pos rfl
theorem put_past {f g : Str} {v x : V} {r : List (Str × V)} (h : ¬ g = f) : putF f v ((g, x) :: r) = (g, x) :: putF f v r := if_neg h
section
variable {P : Program} {w : World} {K : PySem.W.Frag} {mg : Str → Option Value} {base : Heap} {CW : Addr}
def spWInit (CW : Addr) : Sp := fun vs H Q _ => ∃ (p dx : Addr) (x1 x2 x3 x4 x5 : V), vs = [.ref p, x1, x2, x3, x4, x5] ∧ H p = some (.ins CW dx []) ∧
  ∀ H' : Hp, H' p = some (.ins CW dx [("reading", x1), ("text", x2), ("left", x3), ("right", x4), ("cost", x5)]) → (∀ b o, H b = some o → b ≠ p → H' b = some o) → Q .non H'
theorem scWInit : FnScope ["self", "reading", "text", "left", "right", "cost"] ["self", "reading", "text", "left", "right", "cost"] (defScope sWInit) := ⟨rfl, rfl, rfl, by decide +kernel, rfl, by decide +kernel, by decide +kernel⟩
theorem ok_wInit {f : Addr} {fd : FuncData} (F : Fun K "__init__" "Word.__init__" sWInit f fd) (T : TxtR K mg CW) : FnOk P w K mg base CX0 1 f fd ["self", "reading", "text", "left", "right", "cost"] (spWInit CW) := by
  refine F.ok scWInit (fun vs H Q E h => ?_) (fun cdv A outer s H vs Q E hr h => ?_)
  · obtain ⟨p, dx, x1, x2, x3, x4, x5, rfl, _⟩ := h
    rfl
  · obtain ⟨p, dx, x1, x2, x3, x4, x5, rfl, hp, k⟩ := h
    refine ⟨_, pss_cons (ps_fld (pv 0) (pv 1) rfl) (pss_cons (ps_fld (pv 0) (pv 2) rfl) (pss_cons (ps_fld (pv 0) (pv 3) rfl) (pss_cons (ps_fld (pv 0) (pv 4) rfl) (pss_one (ps_fld (pv 0) (pv 5) rfl))))), ?_⟩
    refine ⟨_, rfl, _, rfl, p, CW, dx, _, rfl, hp, T.cl, T.nR, (by show 0 < 1000; decide), _, rfl, _, rfl, p, CW, dx, _, rfl, upd_same, T.cl, T.nT, (by show 1 < 1000; decide), _, rfl, _, rfl, p, CW, dx, _, rfl, upd_same, T.cl, T.nL, (by show 2 < 1000; decide), _, rfl, _, rfl, p, CW, dx, _, rfl, upd_same, T.cl, T.nG, (by show 3 < 1000; decide),
      _, rfl, _, rfl, p, CW, dx, _, rfl, upd_same, T.cl, T.nC, (by show 4 < 1000; decide), ?_⟩
    refine k _ (upd_same.trans ?_) fun b o e hb => ?_
    · have e1 : putF "reading" x1 [] = ([("reading", x1)] : List (Str × V)) := rfl
      have e2 : putF "text" x2 ([("reading", x1)] : List (Str × V)) = ([("reading", x1), ("text", x2)] : List (Str × V)) := (put_past (by decide +kernel)).trans rfl
      have e3 : putF "left" x3 ([("reading", x1), ("text", x2)] : List (Str × V)) = ([("reading", x1), ("text", x2), ("left", x3)] : List (Str × V)) := (put_past (by decide +kernel)).trans (congrArg _ ((put_past (by decide +kernel)).trans rfl))
      have e4 : putF "right" x4 ([("reading", x1), ("text", x2), ("left", x3)] : List (Str × V)) = ([("reading", x1), ("text", x2), ("left", x3), ("right", x4)] : List (Str × V)) := (put_past (by decide +kernel)).trans (congrArg _ ((put_past (by decide +kernel)).trans (congrArg _ ((put_past (by decide +kernel)).trans rfl))))
      have e5 : putF "cost" x5 ([("reading", x1), ("text", x2), ("left", x3), ("right", x4)] : List (Str × V)) = ([("reading", x1), ("text", x2), ("left", x3), ("right", x4), ("cost", x5)] : List (Str × V)) :=
        (put_past (by decide +kernel)).trans (congrArg _ ((put_past (by decide +kernel)).trans (congrArg _ ((put_past (by decide +kernel)).trans (congrArg _ ((put_past (by decide +kernel)).trans rfl))))))
      have e : putF "cost" x5 (putF "right" x4 (putF "left" x3 (putF "text" x2 (putF "reading" x1 [])))) = ([("reading", x1), ("text", x2), ("left", x3), ("right", x4), ("cost", x5)] : List (Str × V)) := by
        rw [e1, e2, e3, e4, e5]
      exact congrArg (fun l => some (HO.ins CW dx l)) e
    · rw [upd_ne hb, upd_ne hb, upd_ne hb, upd_ne hb, upd_ne hb]
      exact e
/-! is_row -/
theorem call1' {sp : Sp} {σ : L2.St} {H : Hp} {te : TE} {x z : V} {E : XK} (h : Ev te σ H x) (hs : ∀ H1, Ex H H1 → ∀ Q : VK, RetV z H1 Q → ∀ E : XK, sp [x] H1 Q E) : Ev (tCall sp [] E (tCons te tNil)) σ H z := call1 h hs
theorem ok_isRow {f f1 : Addr} {fd fd1 : FuncData} (D : Dn K mg "is_row" sIsRow ["row"] f fd) (T : TxtR K mg CW) (D1 : Dn K mg "all_may_stand" sAllMay ["row"] f1 fd1) (G1 : FnOk P w K mg base CX0 3 f1 fd1 ["row"] (spRow K fun r => r.all Sy.isSign)) :
    FnOk P w K mg base CX0 4 f fd ["row"] (spRow K isRowB) := by
  refine D.F.ok scIsRow (fun vs H Q E h => ?_) (fun cdv A outer s H vs Q E hr h => ?_)
  · obtain ⟨a, r, rfl, _⟩ := h
    rfl
  · obtain ⟨a, r, rfl, hS, hl, k⟩ := h
    have hr1 : Room 3 _ := hr.mono (by decide)
    refine ⟨_, pss_one (ps_ret (pe_and (pe_cmpR op_ge (pe_callB call_len_seq (by rfl) T.len PySem.boot_len (pa_cons (pv 0) pa_nil)) pe_int (nomark _)) (pe_and (pe_cmpR op_le (pe_callB call_len_seq (by rfl) T.len PySem.boot_len (pa_cons (pv 0) pa_nil)) (pe_ic T.MC) (nomark _))
      (pe_one (pe_call G1 hr1 rfl D1.g D1.kp D1.b .nil pass0 (pa_cons (pv 0) pa_nil)))))), ?_⟩
    have el : Ev (tCB (rLenS K) (tCons (tVar 0) tNil)) (start ["row"] [.ref a]) H (.int ((nv r).length : Int)) := ev_len (ev_var rfl) hS
    have q : Ev (tAndV (tOp (rI0 fun i j => .bl (decide (j ≤ i))) (tCB (rLenS K) (tCons (tVar 0) tNil)) (tC (.int 1))) (tAndV (tOp (rI0 fun i j => .bl (decide (i ≤ j))) (tCB (rLenS K) (tCons (tVar 0) tNil)) (tC (.int 32))) (tCall (spRow K fun r => r.all Sy.isSign) [] E0 (tCons (tVar 0) tNil)))) (start ["row"] [.ref a]) H
        (.bl (decide ((1 : Int) ≤ ((nv r).length : Int)) && (decide (((nv r).length : Int) ≤ 32) && r.all Sy.isSign))) :=
      ev_andV (ev_op el ev_c rv_I0) fun _ => ev_andV (ev_op el ev_c rv_I0) fun _ => call1 (ev_var rfl) fun H1 e1 Q h E => ⟨a, r, rfl, ex_l e1 hS, hl, h⟩
    refine q H (Ex.refl H) _ fun H1 e1 => ?_
    have e : (decide ((1 : Int) ≤ ((nv r).length : Int)) && (decide (((nv r).length : Int) ≤ 32) && r.all Sy.isSign)) = isRowB r := by
      unfold isRowB
      rw [nv_length]
      congr 1
      · rw [decide_eq_decide]; omega
      · congr 1
        rw [decide_eq_decide]; omega
    rw [e]
    exact k H1 e1
/-! is_word -/
def spIsWord (K : PySem.W.Frag) (CW : Addr) : Sp := fun vs H Q _ => ∃ (p : Addr) (wd : Sy.Word), vs = [.ref p] ∧ WordAt K CW H p wd ∧ wd.reading.length ≤ sizeLine ∧ wd.text.length ≤ sizeLine ∧ RetV (.bl wd.ok) H Q
theorem scIsWord : FnScope ["word"] ["word"] (defScope sIsWord) := ⟨rfl, rfl, rfl, by decide +kernel, rfl, by decide +kernel, by decide +kernel⟩
theorem ok_eq (wd : Sy.Word) : wd.ok = (isRowB wd.reading && (isRowB wd.text && (decide (wd.left ≤ 255) && (decide (wd.right ≤ 255) && decide (wd.cost ≤ 65535))))) := by
  rw [Bool.eq_iff_iff]
  unfold Sy.Word.ok Sy.Word.small isRowB Sy.SIGNS Sy.SORTS Sy.COST
  simp only [Bool.and_eq_true, decide_eq_true_eq, Bool.not_eq_true', List.isEmpty_eq_false_iff]
  have e1 : ∀ l : List Nat, l ≠ [] ↔ 1 ≤ l.length := fun l => by cases l <;> simp
  rw [e1, e1]
  constructor
  · rintro ⟨⟨a1, a2, a3, a4, a5⟩, a6, a7, a8, a9⟩
    exact ⟨⟨a6, a1, a8⟩, ⟨a7, a2, a9⟩, by omega, by omega, a5⟩
  · rintro ⟨⟨a6, a1, a8⟩, ⟨a7, a2, a9⟩, a3, a4, a5⟩
    exact ⟨⟨a1, a2, by omega, by omega, a5⟩, a6, a7, a8, a9⟩
theorem ok_isWord {f f1 : Addr} {fd fd1 : FuncData} (D : Dn K mg "is_word" sIsWord ["word"] f fd) (T : TxtR K mg CW) (D1 : Dn K mg "is_row" sIsRow ["row"] f1 fd1) (G1 : FnOk P w K mg base CX0 4 f1 fd1 ["row"] (spRow K isRowB)) :
    FnOk P w K mg base CX0 5 f fd ["word"] (spIsWord K CW) := by
  refine D.F.ok scIsWord (fun vs H Q E h => ?_) (fun cdv A outer s H vs Q E hr h => ?_)
  · obtain ⟨a, r, rfl, _⟩ := h
    rfl
  · obtain ⟨p, wd, rfl, hW, l1, l2, k⟩ := h
    have hr1 : Room 4 _ := hr.mono (by decide)
    refine ⟨_, pss_cons (ps_if (PW.pt (pw_or (pt_not (pt_val (pe_call G1 hr1 rfl D1.g D1.kp D1.b .nil pass0 (pa_cons (pe_fld (pv 0) rfl) pa_nil)))) (pw_or1 (pt_not (pt_val (pe_call G1 hr1 rfl D1.g D1.kp D1.b .nil pass0 (pa_cons (pe_fld (pv 0) rfl) pa_nil))))))) (pss_one (ps_ret pe_bl)) pss_nil)
      (pss_cons (ps_if (PW.pt (pw_or (pt_cmpR op_gt (pe_fld (pv 0) rfl) (pe_ic T.MS) (nomark _)) (pw_or1 (pt_cmpR op_gt (pe_fld (pv 0) rfl) (pe_ic T.MS) (nomark _))))) (pss_one (ps_ret pe_bl)) pss_nil)
      (pss_one (ps_ret (pe_cmpR op_le (pe_fld (pv 0) rfl) (pe_ic T.MK) (nomark _))))), ?_⟩
    obtain ⟨dx, ra, ta, h1, hR, hT⟩ := id hW
    have fR : Ev (tFld K (tVar 0) "reading") (start ["word"] [V.ref p]) H (.ref ra) := ev_fld (ev_var rfl) h1 T.cl T.nR (wF_reading _ _ _)
    have fT : Ev (tFld K (tVar 0) "text") (start ["word"] [V.ref p]) H (.ref ta) := ev_fld (ev_var rfl) h1 T.cl T.nT (wF_text _ _ _)
    have fL : Ev (tFld K (tVar 0) "left") (start ["word"] [V.ref p]) H (.int (wd.left : Int)) := ev_fld (ev_var rfl) h1 T.cl T.nL (wF_left _ _ _)
    have fG : Ev (tFld K (tVar 0) "right") (start ["word"] [V.ref p]) H (.int (wd.right : Int)) := ev_fld (ev_var rfl) h1 T.cl T.nG (wF_right _ _ _)
    have fC : Ev (tFld K (tVar 0) "cost") (start ["word"] [V.ref p]) H (.int (wd.cost : Int)) := ev_fld (ev_var rfl) h1 T.cl T.nC (wF_cost _ _ _)
    have t1 : ∀ {te : TE} {ra : Addr} {r : List Nat}, Ev te (start ["word"] [V.ref p]) H (.ref ra) → SqL K H ra (nv r) → r.length ≤ sizeLine → EvT (tNot (tB (tCall (spRow K isRowB) [] E0 (tCons te tNil)))) (start ["word"] [V.ref p]) H (!isRowB r) :=
      fun h hs hl => et_not (et_B (call1 h fun H1 e1 Q h E => ⟨_, _, rfl, ex_l e1 hs, hl, h⟩))
    rw [ok_eq] at k
    refine q_when (b := (!isRowB wd.reading) || (!isRowB wd.text)) (et_or (t1 fR hR l1) fun _ => t1 fT hT l2) (fun hb H1 e1 => ?_) (fun hb H1 e1 => ?_)
    · have e : (isRowB wd.reading && (isRowB wd.text && (decide (wd.left ≤ 255) && (decide (wd.right ≤ 255) && decide (wd.cost ≤ 65535))))) = false := by
        cases e1 : isRowB wd.reading
        · rfl
        · cases e2 : isRowB wd.text
          · rfl
          · rw [e1, e2] at hb; cases hb
      rw [e] at k
      exact k H1 e1
    · have e0 : isRowB wd.reading = true ∧ isRowB wd.text = true := by
        cases e1 : isRowB wd.reading
        · rw [e1] at hb; cases hb
        · cases e2 : isRowB wd.text
          · rw [e1, e2] at hb; cases hb
          · exact ⟨rfl, rfl⟩
      rw [e0.1, e0.2] at k
      refine q_when (b := decide ((255 : Int) < (wd.left : Int)) || decide ((255 : Int) < (wd.right : Int))) (et_or (et_test (ev_op (fL.mono e1) ev_c rv_I0)) fun _ => et_test (ev_op (fG.mono e1) ev_c rv_I0)) (fun hb H2 e2 => ?_) (fun hb H2 e2 => ?_)
      · have e : (true && (true && (decide (wd.left ≤ 255) && (decide (wd.right ≤ 255) && decide (wd.cost ≤ 65535))))) = false := by
          simp only [Bool.or_eq_true, decide_eq_true_eq] at hb
          rcases hb with hb | hb
          · rw [decide_eq_false (by omega : ¬ wd.left ≤ 255)]; rfl
          · rw [decide_eq_false (by omega : ¬ wd.right ≤ 255), Bool.false_and, Bool.and_false]; rfl
        rw [e] at k
        exact k H2 (e1.trans e2)
      · have e : (true && (true && (decide (wd.left ≤ 255) && (decide (wd.right ≤ 255) && decide (wd.cost ≤ 65535))))) = decide ((wd.cost : Int) ≤ 65535) := by
          simp only [Bool.or_eq_false_iff, decide_eq_false_iff_not] at hb
          rw [decide_eq_true (by omega : wd.left ≤ 255), decide_eq_true (by omega : wd.right ≤ 255)]
          simp only [Bool.true_and]
          rw [decide_eq_decide]
          omega
        rw [e] at k
        exact (ev_op (fC.mono (e1.trans e2)) ev_c rv_I0 : Ev _ _ _ _) H2 (Ex.refl H2) _ fun H3 e3 => k H3 ((e1.trans e2).trans e3)
/-! is_same -/
def spTwo (K : PySem.W.Frag) (CW : Addr) (g : Sy.Word → Sy.Word → Bool) : Sp := fun vs H Q _ => ∃ (p q : Addr) (a b : Sy.Word), vs = [.ref p, .ref q] ∧ WordAt K CW H p a ∧ WordAt K CW H q b ∧ RetV (.bl (g a b)) H Q
theorem scIsSame : FnScope ["word", "other"] ["word", "other"] (defScope sIsSame) := ⟨rfl, rfl, rfl, by decide +kernel, rfl, by decide +kernel, by decide +kernel⟩
theorem rv_eqRow {H : Hp} {a b : Addr} {r t : List Nat} (ha : SqL K H a (nv r)) (hb : SqL K H b (nv t)) : RV (rEqD K) (.ref a) (.ref b) H (.bl (r == t)) := fun H1 e Q q =>
  ⟨rowD r, rowD t, dp_row (ex_l e ha), dp_row (ex_l e hb), shaped_row r, shaped_row t, by rw [eqv_row]; exact q H1 (Ex.refl H1)⟩
theorem ok_isSame {f : Addr} {fd : FuncData} (D : Dn K mg "is_same" sIsSame ["word", "other"] f fd) (T : TxtR K mg CW) : FnOk P w K mg base CX0 1 f fd ["word", "other"] (spTwo K CW Sy.Word.same) := by
  refine D.F.ok scIsSame (fun vs H Q E h => ?_) (fun cdv A outer s H vs Q E hr h => ?_)
  · obtain ⟨a, r, x, y, rfl, _⟩ := h
    rfl
  · obtain ⟨p, q, a, b, rfl, hA, hB, k⟩ := h
    refine ⟨_, pss_one (ps_ret (pe_and (pe_cmpR (op_eqD hr.units) (pe_fld (pv 0) rfl) (pe_fld (pv 1) rfl) (nomark _)) (pe_one (pe_cmpR (op_eqD hr.units) (pe_fld (pv 0) rfl) (pe_fld (pv 1) rfl) (nomark _))))), ?_⟩
    obtain ⟨d1, r1, t1, g1, hR1, hT1⟩ := hA
    obtain ⟨d2, r2, t2, g2, hR2, hT2⟩ := hB
    have c : Ev (tAndV (tOp (rEqD K) (tFld K (tVar 0) "reading") (tFld K (tVar 1) "reading")) (tOp (rEqD K) (tFld K (tVar 0) "text") (tFld K (tVar 1) "text"))) (start ["word", "other"] [V.ref p, V.ref q]) H (.bl ((a.reading == b.reading) && (a.text == b.text))) :=
      ev_andV (ev_op (ev_fld (ev_var rfl) g1 T.cl T.nR (wF_reading _ _ _)) (ev_fld (ev_var rfl) g2 T.cl T.nR (wF_reading _ _ _)) (rv_eqRow hR1 hR2)) fun _ =>
        ev_op (ev_fld (ev_var rfl) g1 T.cl T.nT (wF_text _ _ _)) (ev_fld (ev_var rfl) g2 T.cl T.nT (wF_text _ _ _)) (rv_eqRow hT1 hT2)
    exact c H (Ex.refl H) _ fun H1 e1 => k H1 e1
/-! order_of -/
def spOrder (K : PySem.W.Frag) (CW : Addr) : Sp := fun vs H Q _ => ∃ (p : Addr) (a : Sy.Word), vs = [.ref p] ∧ WordAt K CW H p a ∧ ∀ y H2, Ex H H2 → Dp K H2 y (keyD a) → Q y H2
theorem scOrderOf : FnScope ["word"] ["word"] (defScope sOrderOf) := ⟨rfl, rfl, rfl, by decide +kernel, rfl, by decide +kernel, by decide +kernel⟩
theorem ok_orderOf {f : Addr} {fd : FuncData} (D : Dn K mg "order_of" sOrderOf ["word"] f fd) (T : TxtR K mg CW) : FnOk P w K mg base CX0 1 f fd ["word"] (spOrder K CW) := by
  refine D.F.ok scOrderOf (fun vs H Q E h => ?_) (fun cdv A outer s H vs Q E hr h => ?_)
  · obtain ⟨a, r, rfl, _⟩ := h
    rfl
  · obtain ⟨p, a, rfl, hA, k⟩ := h
    refine ⟨_, pss_one (ps_ret (pe_tup (pa_cons (pe_fld (pv 0) rfl) (pa_cons (pe_fld (pv 0) rfl) (pa_cons (pe_fld (pv 0) rfl) pa_nil))))), ?_⟩
    obtain ⟨d1, r1, t1, g1, hR1, hT1⟩ := hA
    have c : EvU (tTup (tCons (tFld K (tVar 0) "reading") (tCons (tFld K (tVar 0) "cost") (tCons (tFld K (tVar 0) "text") tNil)))) (start ["word"] [V.ref p]) H [.ref r1, .int (a.cost : Int), .ref t1] :=
      eu_tup (ea_cons (ev_fld (ev_var rfl) g1 T.cl T.nR (wF_reading _ _ _)) (ea_cons (ev_fld (ev_var rfl) g1 T.cl T.nC (wF_cost _ _ _)) (ea_cons (ev_fld (ev_var rfl) g1 T.cl T.nT (wF_text _ _ _)) ea_nil))) (by show 3 ≤ 100000; decide)
    exact c H (Ex.refl H) _ fun y H1 hy e1 h1 => k (.ref y) H1 e1 (.tup (st_of h1) (.cons (dp_row (ex_l e1 hR1)) (.cons (.int _) (.cons (dp_row (ex_l e1 hT1)) .nil))))
end
end So
/-! utf8.py -/
namespace So
open PySem PySem.Spec PyProof.Rows L2 Evl
abbrev sLenTold : Stmt := top 29
abbrev sCharAt : Stmt := top 30
abbrev sDecoded : Stmt := top 31
abbrev sBytesOf : Stmt := top 32
abbrev sEncoded : Stmt := top 33
structure TxtU (K : PySem.W.Frag) (mg : Str → Option Value) : Prop where
  LL : ∃ tA, mg "LEAST_OF_LENGTH" = some (.ref tA) ∧ ∀ H, SqT K H tA [.int 0, .int 0, .int 128, .int 2048, .int 65536]
/-- an optional number -/
def optV : Option Nat → V
  | some n => .int (n : Int)
  | none => .non
theorem cut_nat {xs : List V} {lo hi : Nat} (h1 : lo ≤ hi) (h2 : hi ≤ xs.length) : cutV xs (some (lo : Int)) (some (hi : Int)) = (xs.drop lo).take (hi - lo) := by
  unfold cutV
  have e1 : HT.sIx xs.length 0 (some (lo : Int)) = lo := by
    rw [HT.sIx_nat]
    omega
  have e2 : HT.sIx xs.length xs.length (some (hi : Int)) = hi := by
    rw [HT.sIx_nat]
    omega
  rw [e1, e2]
theorem cut_drop {xs : List V} {lo : Nat} (h1 : lo ≤ xs.length) : cutV xs (some (lo : Int)) none = xs.drop lo := by
  unfold cutV
  have e1 : HT.sIx xs.length 0 (some (lo : Int)) = lo := by
    rw [HT.sIx_nat]
    omega
  have e2 : HT.sIx xs.length xs.length none = xs.length := rfl
  rw [e1, e2]
  exact List.take_of_length_le (by rw [List.length_drop]; exact Nat.le_refl _)
theorem cut_take {xs : List V} {hi : Nat} (h2 : hi ≤ xs.length) : cutV xs none (some (hi : Int)) = xs.take hi := by
  unfold cutV
  have e1 : HT.sIx xs.length 0 none = 0 := rfl
  have e2 : HT.sIx xs.length xs.length (some (hi : Int)) = hi := by
    rw [HT.sIx_nat]
    omega
  rw [e1, e2]
  simp
section
variable {P : Program} {w : World} {K : PySem.W.Frag} {mg : Str → Option Value} {base : Heap} {CW : Addr}
def spLenTold : Sp := fun vs H Q _ => ∃ n : Nat, vs = [.int n] ∧ RetV (.int (lenTold n : Int)) H Q
theorem scLenTold : FnScope ["lead"] ["lead"] (defScope sLenTold) := ⟨rfl, rfl, rfl, by decide +kernel, rfl, by decide +kernel, by decide +kernel⟩
theorem ok_lenTold {f : Addr} {fd : FuncData} (D : Dn K mg "length_told" sLenTold ["lead"] f fd) : FnOk P w K mg base CX0 1 f fd ["lead"] spLenTold := by
  refine D.F.ok scLenTold (fun vs H Q E h => ?_) (fun cdv A outer s H vs Q E hr h => ?_)
  · obtain ⟨n, rfl, _⟩ := h
    rfl
  · obtain ⟨n, rfl, k⟩ := h
    refine ⟨_, pss_cons (ps_if (pt_cmpR op_lt (pv 0) pe_int (nomark _)) (pss_one (ps_ret pe_int)) pss_nil) (pss_cons (ps_if (pt_cmpR op_lt (pv 0) pe_int (nomark _)) (pss_one (ps_ret pe_int)) pss_nil)
      (pss_cons (ps_if (pt_cmpR op_lt (pv 0) pe_int (nomark _)) (pss_one (ps_ret pe_int)) pss_nil) (pss_cons (ps_if (pt_cmpR op_lt (pv 0) pe_int (nomark _)) (pss_one (ps_ret pe_int)) pss_nil)
      (pss_cons (ps_if (pt_cmpR op_lt (pv 0) pe_int (nomark _)) (pss_one (ps_ret pe_int)) pss_nil) (pss_one (ps_ret pe_int)))))), ?_⟩
    unfold lenTold at k
    refine q_when (b := decide ((n : Int) < 128)) (et_test (ev_op (ev_var rfl) ev_c rv_I0)) (fun hb H1 e1 => ?_) (fun hb H1 e1 => ?_)
    · rw [if_pos (by simp at hb; omega)] at k
      exact k H1 e1
    rw [if_neg (by simp at hb; omega)] at k
    refine q_when (b := decide ((n : Int) < 192)) (et_test (ev_op (ev_var rfl) ev_c rv_I0)) (fun hb H2 e2 => ?_) (fun hb H2 e2 => ?_)
    · rw [if_pos (by simp at hb; omega)] at k
      exact k H2 (e1.trans e2)
    rw [if_neg (by simp at hb; omega)] at k
    refine q_when (b := decide ((n : Int) < 224)) (et_test (ev_op (ev_var rfl) ev_c rv_I0)) (fun hb H3 e3 => ?_) (fun hb H3 e3 => ?_)
    · rw [if_pos (by simp at hb; omega)] at k
      exact k H3 ((e1.trans e2).trans e3)
    rw [if_neg (by simp at hb; omega)] at k
    refine q_when (b := decide ((n : Int) < 240)) (et_test (ev_op (ev_var rfl) ev_c rv_I0)) (fun hb H4 e4 => ?_) (fun hb H4 e4 => ?_)
    · rw [if_pos (by simp at hb; omega)] at k
      exact k H4 (((e1.trans e2).trans e3).trans e4)
    rw [if_neg (by simp at hb; omega)] at k
    refine q_when (b := decide ((n : Int) < 248)) (et_test (ev_op (ev_var rfl) ev_c rv_I0)) (fun hb H5 e5 => ?_) (fun hb H5 e5 => ?_)
    · rw [if_pos (by simp at hb; omega)] at k
      exact k H5 ((((e1.trans e2).trans e3).trans e4).trans e5)
    rw [if_neg (by simp at hb; omega)] at k
    exact k H5 ((((e1.trans e2).trans e3).trans e4).trans e5)
/-! character_at -/
theorem lenTold_some (b : Nat) : lenTold b = 0 ∨ lenTold b = 1 ∨ lenTold b = 2 ∨ lenTold b = 3 ∨ lenTold b = 4 := by
  unfold lenTold
  split
  · simp
  · split
    · simp
    · split
      · simp
      · split
        · simp
        · split <;> simp
theorem ev_ixN {σ : L2.St} {H : Hp} {ta tb : TE} {a : Addr} {xs : List V} {i : Nat} {v : V} (ha : Ev ta σ H (.ref a)) (hb : Ev tb σ H (.int (i : Int))) (hs : SqL K H a xs) (hx : xs[i]? = some v) : Ev (tOp (rIxL K) ta tb) σ H v :=
  ev_op ha hb (rv_ixL hs (atI_nat hx))
theorem nv_get {r : List Nat} {i n : Nat} (h : r[i]? = some n) : (nv r)[i]? = some (.int (n : Int)) := by
  rw [List.getElem?_map, h]; rfl
theorem mask_low {b : Nat} (k : Nat) : Builtin.bitAnd (b : Int) ((2 : Int) ^ k - 1) = ((b % 2 ^ k : Nat) : Int) := by
  rw [Bits.bitAnd_mask k (by omega)]
  have : ((2 : Int) ^ k) = ((2 ^ k : Nat) : Int) := by simp
  rw [this]
  omega
theorem mask_top {b : Nat} (h : b < 256) : decide (Builtin.bitAnd (b : Int) 192 = 128) = isCont b := by
  have e : Builtin.bitAnd (b : Int) 192 = ((b &&& 192 : Nat) : Int) := rfl
  have k : ∀ b : Fin 256, decide ((b.val &&& 192) = 128) = isCont b.val := by decide
  have k' := k ⟨b, h⟩
  rw [e, ← k', decide_eq_decide]
  show ((b &&& 192 : Nat) : Int) = 128 ↔ (b &&& 192) = 128
  omega
theorem join_low {c b : Nat} (h : b < 64) : Builtin.bitOr ((c : Int) * 2 ^ 6) (b : Int) = ((c * 64 + b : Nat) : Int) := by
  rw [Bits.bitOr_join' (k := 6) (by omega) (by omega) (by omega)]
  omega
def spCharAt (K : PySem.W.Frag) : Sp := fun vs H Q _ => ∃ (a : Addr) (d : List Nat) (i : Nat), vs = [.ref a, .int (i : Int)] ∧ SqL K H a (nv d) ∧ (∀ x ∈ d, x < 256) ∧ i < d.length ∧ d.length ≤ sizeLine ∧ RetV (optV (charAt (d.drop i))) H Q
theorem scCharAt : FnScope ["data", "start", "length", "character", "byte"] ["data", "start"] (defScope sCharAt) := ⟨rfl, rfl, rfl, by decide +kernel, rfl, by decide +kernel, by decide +kernel⟩
theorem ok_charAt {f f1 f2 : Addr} {fd fd1 fd2 : FuncData} (D : Dn K mg "character_at" sCharAt ["data", "start"] f fd) (T : TxtR K mg CW) (U : TxtU K mg) (D1 : Dn K mg "length_told" sLenTold ["lead"] f1 fd1) (G1 : FnOk P w K mg base CX0 1 f1 fd1 ["lead"] spLenTold)
    (D2 : Dn K mg "is_character" sIsChar ["number"] f2 fd2) (G2 : FnOk P w K mg base CX0 1 f2 fd2 ["number"] spIsChar) :
    FnOk P w K mg base CX0 2 f fd ["data", "start"] (spCharAt K) := by
  refine D.F.ok scCharAt (fun vs H Q E h => ?_) (fun cdv A outer s H vs Q E hr h => ?_)
  · obtain ⟨n, d, i, rfl, _⟩ := h
    rfl
  · obtain ⟨a, d, i, rfl, hS, hby, hi, hl, k⟩ := h
    have hr1 : Room 1 _ := hr.mono (by decide)
    obtain ⟨tA, gA, sA⟩ := U.LL
    refine ⟨_, pss_cons (ps_set (i := 2) scCharAt.nd rfl (Or.inl rfl) (pe_call G1 hr1 rfl D1.g D1.kp D1.b .nil pass0 (pa_cons (pe_ix ix_list (pv 0) (pv 1) (fun _ _ => rfl)) pa_nil)))
      (pss_cons (ps_if (PW.pt (pw_or (pt_cmpR op_eq (pv 2) pe_int (nomark _)) (pw_or1 (pt_cmpR op_gt (pe_op op_add (pv 1) (pv 2)) (pe_callB call_len_seq (by rfl) T.len PySem.boot_len (pa_cons (pv 0) pa_nil)) (nomark _))))) (pss_one (ps_ret pe_non)) pss_nil)
      (pss_cons (ps_if (pt_cmpR op_eq (pv 2) pe_int (nomark _)) (pss_one (ps_ret (pe_ix ix_list (pv 0) (pv 1) (fun _ _ => rfl)))) pss_nil)
      (pss_cons (ps_set (i := 3) scCharAt.nd rfl (Or.inl rfl) (pe_op op_and (pe_ix ix_list (pv 0) (pv 1) (fun _ _ => rfl)) (pe_op op_shr pe_int (pv 2))))
      (pss_cons (ps_for PassesOwn.never rfl (pi_list (pe_slice sl_list (pv 0) (po_some (pe_op op_add (pv 1) pe_int)) (po_some (pe_op op_add (pv 1) (pv 2))))) (pg_name (i := 4) scCharAt.nd rfl (Or.inl rfl))
        (pss_cons (ps_if (pt_cmpR op_ne (pe_op op_and (pv 4) pe_int) pe_int (nomark _)) (pss_one (ps_ret pe_non)) pss_nil)
          (pss_one (ps_set (i := 3) scCharAt.nd rfl (Or.inl rfl) (pe_op op_or (pe_op op_shl (pv 3) pe_int) (pe_op op_and (pv 4) pe_int))))))
      (pss_cons (ps_if (PW.pt (pw_or (pt_cmpR op_lt (pv 3) (pe_ix ix_tup (pe_glob (v := .ref tA) rfl gA rfl) (pv 2) (fun _ _ => rfl)) (nomark _)) (pw_or1 (pt_not (pt_val (pe_call G2 hr1 rfl D2.g D2.kp D2.b .nil pass0 (pa_cons (pv 3) pa_nil))))))) (pss_one (ps_ret pe_non)) pss_nil)
      (pss_one (ps_ret (pv 3)))))))), ?_⟩
    -- the first byte
    obtain ⟨b, r, hd⟩ : ∃ b r, d.drop i = b :: r := ⟨_, _, List.drop_eq_getElem_cons hi⟩
    have hg : d[i]? = some b := by
      have := congrArg List.head? hd
      rw [List.head?_drop] at this
      exact this
    have hr : d.drop (i + 1) = r := by
      have := congrArg List.tail hd
      rw [List.tail_drop] at this
      exact this
    have hb0 : b < 256 := hby b (List.mem_of_getElem? hg)
    have hdl : (b :: r).length = d.length - i := by rw [← hd, List.length_drop]
    rw [List.length_cons] at hdl
    rw [hd] at k
    have ix0 : ∀ {σ : L2.St} {H1 : Hp}, σ[0]? = some (some (.ref a)) → σ[1]? = some (some (.int (i : Int))) → Ex H H1 → Ev (tOp (rIxL K) (tVar 0) (tVar 1)) σ H1 (.int (b : Int)) :=
      fun h0 h1 e => ev_ixN (ev_var h0) (ev_var h1) (ex_l e hS) (nv_get hg)
    refine q_asg (v := .int (lenTold b : Int)) (call1 (ix0 rfl rfl (Ex.refl H)) fun H1 e1 Q h E => ⟨b, rfl, h⟩) fun H1 e1 => ?_
    have hlen : Ev (tCB (rLenS K) (tCons (tVar 0) tNil)) ((start ["data", "start", "length", "character", "byte"] [V.ref a, V.int (i : Int)]).set 2 (some (.int (lenTold b : Int)))) H1 (.int ((nv d).length : Int)) := ev_len (ev_var rfl) (ex_l e1 hS)
    refine q_when (b := decide (V.int (lenTold b : Int) = .int 0) || decide (((nv d).length : Int) < (i : Int) + (lenTold b : Int))) (et_or (et_test (ev_op (ev_var rfl) ev_c (rv_eq rfl))) fun _ => et_test (ev_op (ev_op (ev_var rfl) (ev_var rfl) rv_I0) hlen rv_I0)) (fun hb H2 e2 => ?_) (fun hb H2 e2 => ?_)
    · have e : charAt (b :: r) = none := by
        show (if lenTold b = 0 ∨ (b :: r).length < lenTold b then none else _) = none
        rw [if_pos]
        rw [nv_length] at hb
        simp at hb
        rw [List.length_cons]
        omega
      rw [e] at k
      exact k H2 (e1.trans e2)
    have ne0 : ¬ (lenTold b = 0 ∨ (b :: r).length < lenTold b) := by
      rw [nv_length] at hb
      simp at hb
      rw [List.length_cons]
      omega
    have k0 : RetV (optV (if lenTold b = 1 then some b else match conts (leadVal (lenTold b) b) (r.take (lenTold b - 1)) with
        | none => none
        | some c => if c < leastOf (lenTold b) ∨ Sy.isChar c = false then none else some c)) H Q := by
      have e : charAt (b :: r) = (if lenTold b = 1 then some b else match conts (leadVal (lenTold b) b) (r.take (lenTold b - 1)) with
        | none => none
        | some c => if c < leastOf (lenTold b) ∨ Sy.isChar c = false then none else some c) := by
        show (if lenTold b = 0 ∨ (b :: r).length < lenTold b then none else _) = _
        rw [if_neg ne0]
        first | done | rfl
      rw [← e]
      exact k
    rw [not_or, List.length_cons] at ne0
    obtain ⟨n0, n1⟩ := ne0
    refine q_when (b := decide (V.int (lenTold b : Int) = .int 1)) (et_test (ev_op (ev_var rfl) ev_c (rv_eq rfl))) (fun hb H3 e3 => ?_) (fun hb H3 e3 => ?_)
    · rw [if_pos (by simp at hb; omega)] at k0
      exact ix0 rfl rfl ((e1.trans e2).trans e3) H3 (Ex.refl H3) _ fun H4 e4 => k0 H4 (((e1.trans e2).trans e3).trans e4)
    have n2 : ¬ lenTold b = 1 := by
      simp at hb
      omega
    rw [if_neg n2] at k0
    have le4 : lenTold b = 2 ∨ lenTold b = 3 ∨ lenTold b = 4 := by
      rcases lenTold_some b with h | h | h | h | h
      · exact absurd h n0
      · exact absurd h n2
      · exact .inl h
      · exact .inr (.inl h)
      · exact .inr (.inr h)
    generalize hn : lenTold b = n at *
    have lead : Ev (tOp (rI0 fun i j => .int (Builtin.bitAnd i j)) (tOp (rIxL K) (tVar 0) (tVar 1)) (tOp (rI (fun _ j => 0 ≤ j) fun i j => .int (i / 2 ^ j.toNat)) (tC (.int 127)) (tVar 2))) ((start ["data", "start", "length", "character", "byte"] [V.ref a, V.int (i : Int)]).set 2 (some (.int (n : Int)))) H3 (.int (leadVal n b : Int)) := by
      refine ev_is (ev_op (ix0 rfl rfl ((e1.trans e2).trans e3)) (ev_op ev_c (ev_var rfl) (rv_I (by omega))) rv_I0) ?_
      rcases le4 with rfl | rfl | rfl
      · exact congrArg V.int (mask_low (b := b) 5)
      · exact congrArg V.int (mask_low (b := b) 4)
      · exact congrArg V.int (mask_low (b := b) 3)
    refine q_asg lead fun H4 e4 => ?_
    have e04 := ((e1.trans e2).trans e3).trans e4
    have sl := el_sl (K := K) (tl := tPart (tOp (rI0 fun i j => .int (i + j)) (tVar 1) (tC (.int 1)))) (th := tPart (tOp (rI0 fun i j => .int (i + j)) (tVar 1) (tVar 2))) (σ := ((start ["data", "start", "length", "character", "byte"] [V.ref a, V.int (i : Int)]).set 2 (some (.int (n : Int)))).set 3 (some (.int (leadVal n b : Int)))) (H := H4)
      (ev_var (i := 0) rfl) (eo_some (ev_op (ev_var rfl) ev_c rv_I0)) (eo_some (ev_op (ev_var rfl) (ev_var rfl) rv_I0)) (ex_l e04 hS)
    have cutE : cutV (nv d) (some ((i : Int) + 1)) (some ((i : Int) + (n : Int))) = nv (r.take (n - 1)) := by
      have h := cut_nat (xs := nv d) (lo := i + 1) (hi := i + n) (by omega) (by rw [nv_length]; omega)
      have h1 : (((i + 1 : Nat)) : Int) = (i : Int) + 1 := by omega
      have h2 : (((i + n : Nat)) : Int) = (i : Int) + (n : Int) := by omega
      rw [h1, h2] at h
      rw [h, ← List.map_drop, ← List.map_take, hr]
      congr 1
      congr 1
      omega
    rw [cutE] at sl
    have hcl : (r.take (n - 1)).length = n - 1 := by rw [List.length_take]; omega
    have hcb : ∀ x ∈ r.take (n - 1), x < 256 := fun x hx => hby x (by
      have h1 := List.mem_of_mem_take hx
      rw [← hr] at h1
      exact List.mem_of_mem_drop h1)
    have lv64 : leadVal n b < 64 := by
      unfold leadVal
      rcases le4 with rfl | rfl | rfl <;> simp <;> omega
    refine q_forNLn sl (fun p j σ' H' => ∃ (c : Nat) (v4 : Option V), σ' = [some (.ref a), some (.int (i : Int)), some (.int (n : Int)), some (.int (c : Int)), v4] ∧ Ex H H' ∧ H' p = some (.lst (nv (r.take (n - 1)))) ∧ conts (leadVal n b) (r.take (n - 1)) = conts c ((r.take (n - 1)).drop j) ∧ c < 64 ^ (j + 1))
      (fun p H5 hp e5 h5 => ⟨leadVal n b, none, rfl, e04.trans e5, h5, rfl, by simpa using lv64⟩) (fun p j σ' H' _ ⟨_, _, _, _, h5, _⟩ => sq_of h5) ?_ ?_
    · rintro p j x σ' H' hx ⟨c, v4, rfl, eH, h5, hc, hcj⟩
      obtain ⟨y, hy, rfl⟩ : ∃ y, (r.take (n - 1))[j]? = some y ∧ x = .int (y : Int) := by
        rw [List.getElem?_map] at hx
        cases q : (r.take (n - 1))[j]? with
        | none => rw [q] at hx; cases hx
        | some y => rw [q] at hx; exact ⟨y, rfl, (Option.some.inj hx).symm⟩
      have hy256 : y < 256 := hcb y (List.mem_of_getElem? hy)
      have hj3 : j < 3 := by
        have := (List.getElem?_eq_some_iff.mp hy).1
        omega
      have hdj : (r.take (n - 1)).drop j = y :: (r.take (n - 1)).drop (j + 1) := by
        obtain ⟨h1, h2⟩ := List.getElem?_eq_some_iff.mp hy
        rw [List.drop_eq_getElem_cons h1, h2]
      rw [hdj] at hc
      have hc' : conts (leadVal n b) (r.take (n - 1)) = if isCont y = true then conts (c * 64 + y % 64) ((r.take (n - 1)).drop (j + 1)) else none := hc
      have hpow : 64 ^ (j + 1) ≤ 64 ^ 3 := Nat.pow_le_pow_right (by decide) (by omega)
      refine q_when (b := !decide (V.int (Builtin.bitAnd (y : Int) 192) = .int 128)) (et_test (ev_op (ev_op (ev_var rfl) ev_c rv_I0) ev_c (rv_ne rfl))) (fun hb H6 e6 => ?_) (fun hb H6 e6 => ?_)
      · have e : isCont y = false := by
          rw [← mask_top hy256]
          simpa using hb
        rw [e, if_neg Bool.false_ne_true] at hc'
        rw [hc'] at k0
        exact k0 H6 (eH.trans e6)
      · have e : isCont y = true := by
          rw [← mask_top hy256]
          simpa using hb
        rw [e, if_pos rfl] at hc'
        refine s_asg (v := .int ((c * 64 + y % 64 : Nat) : Int)) ?_ fun H7 e7 => ⟨c * 64 + y % 64, _, rfl, (eH.trans e6).trans e7, e7 _ _ (e6 _ _ h5), hc', ?_⟩
        · refine ev_is (ev_op (ev_op (ev_var rfl) ev_c (rv_I ⟨by decide, by decide, ?_⟩)) (ev_op (ev_var rfl) ev_c rv_I0) rv_I0) ?_
          · rw [Int.natAbs_natCast]
            have : (64 : Nat) ^ 3 < 2 ^ 64 := by decide
            omega
          · refine congrArg V.int ?_
            have h1 : Builtin.bitAnd (y : Int) 63 = ((y % 64 : Nat) : Int) := mask_low (b := y) 6
            rw [h1]
            exact join_low (by omega)
        · rw [Nat.pow_succ]
          omega
    · rintro p σ' H' ⟨c, v4, rfl, eH, h5, hc, _⟩
      have hend : (r.take (n - 1)).drop (nv (r.take (n - 1))).length = [] := by
        rw [nv_length, List.drop_length]
      rw [hend] at hc
      have hc' : conts (leadVal n b) (r.take (n - 1)) = some c := hc
      rw [hc'] at k0
      have k1 : RetV (optV (if c < leastOf n ∨ Sy.isChar c = false then none else some c)) H Q := k0
      have ll : Ev (tOp (rIxT K) (tC (.ref tA)) (tVar 2)) [some (.ref a), some (.int (i : Int)), some (.int (n : Int)), some (.int (c : Int)), v4] H' (.int (leastOf n : Int)) := by
        refine ev_op ev_c (ev_var rfl) (rv_ixT (sA H') ?_)
        rcases le4 with rfl | rfl | rfl
        · exact atI_nat rfl
        · exact atI_nat rfl
        · exact atI_nat rfl
      refine q_when (b := decide ((c : Int) < (leastOf n : Int)) || !Sy.isChar c) (et_or (et_test (ev_op (ev_var rfl) ll rv_I0)) fun _ => et_not (et_B (call1 (ev_var rfl) fun H1 e1 Q h E => ⟨c, rfl, h⟩))) (fun hb H6 e6 => ?_) (fun hb H6 e6 => ?_)
      · rw [if_pos (by simp at hb; exact hb)] at k1
        exact k1 H6 (eH.trans e6)
      · rw [if_neg (by simp at hb; simp; exact hb)] at k1
        exact (ev_var rfl : Ev _ _ _ _) H6 (Ex.refl H6) _ fun H7 e7 => k1 H7 ((eH.trans e6).trans e7)
end
end So
/-! utf8.py, the rest -/
namespace So
open PySem PySem.Spec PyProof.Rows L2 Evl
/-- an optional row as an answer -/
def RetOL (o : Option (List Nat)) (H : Hp) (Q : VK) : Prop := match o with
  | some r => RetL (nv r) H Q
  | none => RetV .non H Q
section
variable {K : PySem.W.Frag} {σ : L2.St} {H : Hp} {ta tb te : TE} {D : Ends} {tz : TS} {x v : V}
theorem rv_isN : RV (fun x y H Q => y = .non ∧ Q (.bl (decide (x = .non))) H) x .non H (.bl (decide (x = .non))) := fun H1 _ _ q => ⟨rfl, q H1 (Ex.refl H1)⟩
/-- xs.append(e), whatever the size -/
theorem s_appS {l : Addr} {xs : List V} (hl : H l = some (.lst xs)) (ha : Ev ta σ H (.ref l)) (h : Ev te σ H v) (hz : xs.length < sizeLine) (k : ∀ H1, Ex H H1 → D.nx σ (upd H1 l (.lst (xs ++ [v])))) : tDrop (tBM K "list" rAppend ta (tCons te tNil)) D σ H :=
  ha H (Ex.refl H) _ fun H1 e1 => ⟨Or.inl ⟨rfl, xs, sq_of (e1 l _ hl)⟩, h H1 e1 _ fun H2 e2 => ⟨l, xs, v, rfl, rfl, e2 l _ (e1 l _ hl), hz, k H2 (e1.trans e2)⟩⟩
theorem q_appS {l : Addr} {xs : List V} (hl : H l = some (.lst xs)) (ha : Ev ta σ H (.ref l)) (h : Ev te σ H v) (hz : xs.length < sizeLine) (k : ∀ H1, Ex H H1 → tz D σ (upd H1 l (.lst (xs ++ [v])))) : tSeq (tDrop (tBM K "list" rAppend ta (tCons te tNil))) tz D σ H :=
  s_appS (D := { D with nx := tz D }) hl ha h hz k
/-- xs.extend(a new list) -/
theorem s_extL {l : Addr} {xs ys : List V} (hl : H l = some (.lst xs)) (ha : Ev ta σ H (.ref l)) (h : EvL te σ H ys) (hz : xs.length + ys.length ≤ sizeLine) (k : ∀ H1, Ex H H1 → D.nx σ (upd H1 l (.lst (xs ++ ys)))) : tDrop (tBM K "list" rExtend ta (tCons te tNil)) D σ H :=
  ha H (Ex.refl H) _ fun H1 e1 => ⟨Or.inl ⟨rfl, xs, sq_of (e1 l _ hl)⟩, h H1 e1 _ fun p H2 _ e2 h2 => ⟨l, p, xs, ys, rfl, rfl, e2 l _ (e1 l _ hl), h2, hz, k H2 (e1.trans e2)⟩⟩
theorem q_extL {l : Addr} {xs ys : List V} (hl : H l = some (.lst xs)) (ha : Ev ta σ H (.ref l)) (h : EvL te σ H ys) (hz : xs.length + ys.length ≤ sizeLine) (k : ∀ H1, Ex H H1 → tz D σ (upd H1 l (.lst (xs ++ ys)))) : tSeq (tDrop (tBM K "list" rExtend ta (tCons te tNil))) tz D σ H :=
  s_extL (D := { D with nx := tz D }) hl ha h hz k
/-- xs.extend(a list that stands) -/
theorem s_ext {l b : Addr} {xs ys : List V} (hl : H l = some (.lst xs)) (ha : Ev ta σ H (.ref l)) (h : Ev te σ H (.ref b)) (hb : H b = some (.lst ys)) (hz : xs.length + ys.length ≤ sizeLine) (k : ∀ H1, Ex H H1 → D.nx σ (upd H1 l (.lst (xs ++ ys)))) : tDrop (tBM K "list" rExtend ta (tCons te tNil)) D σ H :=
  ha H (Ex.refl H) _ fun H1 e1 => ⟨Or.inl ⟨rfl, xs, sq_of (e1 l _ hl)⟩, h H1 e1 _ fun H2 e2 => ⟨l, b, xs, ys, rfl, rfl, e2 l _ (e1 l _ hl), e2 b _ (e1 b _ hb), hz, k H2 (e1.trans e2)⟩⟩
theorem q_ext {l b : Addr} {xs ys : List V} (hl : H l = some (.lst xs)) (ha : Ev ta σ H (.ref l)) (h : Ev te σ H (.ref b)) (hb : H b = some (.lst ys)) (hz : xs.length + ys.length ≤ sizeLine) (k : ∀ H1, Ex H H1 → tz D σ (upd H1 l (.lst (xs ++ ys)))) : tSeq (tDrop (tBM K "list" rExtend ta (tCons te tNil))) tz D σ H :=
  s_ext (D := { D with nx := tz D }) hl ha h hb hz k
theorem ev_lst0 : EvL (tLst tNil) σ H [] := el_lst ea_nil (by decide)
end
theorem nv_app (a b : List Nat) : nv (a ++ b) = nv a ++ nv b := List.map_append
theorem sz_ok {n : Nat} (h : n ≤ 10000000) : n ≤ sizeLine := Nat.le_trans h (by decide)
section
variable {P : Program} {w : World} {K : PySem.W.Frag} {mg : Str → Option Value} {base : Heap} {CW : Addr}
/-! decoded -/
def spDecoded (K : PySem.W.Frag) : Sp := fun vs H Q _ => ∃ (a : Addr) (d : List Nat), vs = [.ref a] ∧ SqL K H a (nv d) ∧ (∀ x ∈ d, x < 256) ∧ d.length ≤ 60000 ∧ RetOL (decoded d) H Q
theorem scDecoded : FnScope ["data", "row", "at", "character"] ["data"] (defScope sDecoded) := ⟨rfl, rfl, rfl, by decide +kernel, rfl, by decide +kernel, by decide +kernel⟩
theorem ok_decoded {f f1 f2 : Addr} {fd fd1 fd2 : FuncData} (D : Dn K mg "decoded" sDecoded ["data"] f fd) (T : TxtR K mg CW) (D1 : Dn K mg "length_told" sLenTold ["lead"] f1 fd1) (G1 : FnOk P w K mg base CX0 1 f1 fd1 ["lead"] spLenTold)
    (D2 : Dn K mg "character_at" sCharAt ["data", "start"] f2 fd2) (G2 : FnOk P w K mg base CX0 2 f2 fd2 ["data", "start"] (spCharAt K)) :
    FnOk P w K mg base CX0 3 f fd ["data"] (spDecoded K) := by
  refine D.F.ok scDecoded (fun vs H Q E h => ?_) (fun cdv A outer s H vs Q E hr h => ?_)
  · obtain ⟨n, d, rfl, _⟩ := h
    rfl
  · obtain ⟨a, d, rfl, hS, hby, hl, k⟩ := h
    have hr1 : Room 1 _ := hr.mono (by decide)
    have hr2 : Room 2 _ := hr.mono (by decide)
    have hz : d.length ≤ sizeLine := sz_ok (by omega)
    refine ⟨_, pss_cons (ps_set (i := 1) scDecoded.nd rfl (Or.inl rfl) (pe_lst pa_nil)) (pss_cons (ps_set (i := 2) scDecoded.nd rfl (Or.inl rfl) pe_int)
      (pss_cons (ps_while PassesOwn.never (pt_cmpR op_lt (pv 2) (pe_callB call_len_seq (by rfl) T.len PySem.boot_len (pa_cons (pv 0) pa_nil)) (nomark _))
        (pss_cons (ps_set (i := 3) scDecoded.nd rfl (Or.inl rfl) (pe_call G2 hr2 rfl D2.g D2.kp D2.b .nil pass0 (pa_cons (pv 0) (pa_cons (pv 2) pa_nil))))
        (pss_cons (ps_if (pt_cmpR op_isN (pv 3) pe_non (nomark _)) (pss_one (ps_ret pe_non)) pss_nil)
        (pss_cons (ps_expr (pe_bm PySem.F.plainAttrs_list PySem.F.slot_list_append PySem.F.type_list_append mt_append (pv 1) (pa_cons (pv 3) pa_nil)))
        (pss_one (ps_aug (i := 2) scDecoded.nd rfl (Or.inl rfl) (pe_call G1 hr1 rfl D1.g D1.kp D1.b .nil pass0 (pa_cons (pe_ix ix_list (pv 0) (pv 2) (fun _ _ => rfl)) pa_nil)) ip_add))))))
      (pss_one (ps_ret (pv 1))))), ?_⟩
    refine q_asgL ev_lst0 fun p H1 hp e1 h1 => ?_
    refine q_asg (v := .int 0) ev_c fun H2 e2 => ?_
    refine q_while (fun m σ' H' => ∃ (i : Nat) (acc : List Nat) (v3 : Option V), m = d.length - i ∧ i ≤ d.length ∧ acc.length ≤ i ∧ σ' = [some (.ref a), some (.ref p), some (.int (i : Int)), v3] ∧ Ex H H' ∧ H' p = some (.lst (nv acc)) ∧ decoded d = (decoded (d.drop i)).map fun t => acc ++ t)
      (d.length - 0) ⟨0, [], none, rfl, Nat.zero_le _, Nat.le_refl _, rfl, e1.trans e2, e2 _ _ h1, by simp⟩ ?_
    rintro m σ' H' ⟨i, acc, v3, rfl, hi, hac, rfl, eH, hpl, hdec⟩
    have hlen : Ev (tCB (rLenS K) (tCons (tVar 0) tNil)) [some (.ref a), some (.ref p), some (.int (i : Int)), v3] H' (.int ((nv d).length : Int)) := ev_len (ev_var rfl) (ex_l eH hS)
    refine ⟨decide ((i : Int) < ((nv d).length : Int)), et_test (ev_op (ev_var rfl) hlen rv_I0), fun hb H3 e3 => ?_, fun hb H3 e3 => ?_⟩
    · rw [nv_length] at hb
      have hlt : i < d.length := by simp at hb; omega
      have hne : d.drop i ≠ [] := by
        intro z
        have := congrArg List.length z
        rw [List.length_drop] at this
        simp at this
        omega
      have hstep := decoded_step hne
      have eH3 := eH.trans e3
      refine ⟨fun σ2 H2 => ∃ m', m' < d.length - i ∧ ∃ (i : Nat) (acc : List Nat) (v3 : Option V), m' = d.length - i ∧ i ≤ d.length ∧ acc.length ≤ i ∧ σ2 = [some (.ref a), some (.ref p), some (.int (i : Int)), v3] ∧ Ex H H2 ∧ H2 p = some (.lst (nv acc)) ∧ decoded d = (decoded (d.drop i)).map fun t => acc ++ t, fun σ2 H2 h => h, ?_⟩
      refine q_asg (v := optV (charAt (d.drop i))) (call2 (ev_var rfl) (ev_var rfl) fun H4 e4 Q' hq E => ⟨a, d, i, rfl, ex_l (eH3.trans e4) hS, hby, hlt, hz, hq⟩) fun H4 e4 => ?_
      refine q_when (b := decide (optV (charAt (d.drop i)) = .non)) (et_test (ev_op (ev_var rfl) ev_c rv_isN)) (fun hb H5 e5 => ?_) (fun hb H5 e5 => ?_)
      · have hc : charAt (d.drop i) = none := by
          cases q : charAt (d.drop i) with
          | none => rfl
          | some c => rw [q] at hb; simp [optV] at hb
        rw [hc] at hstep
        rw [hstep] at hdec
        rw [hdec] at k
        exact k H5 ((eH3.trans e4).trans e5)
      · obtain ⟨c, hc⟩ : ∃ c, charAt (d.drop i) = some c := by
          cases q : charAt (d.drop i) with
          | none => rw [q] at hb; simp [optV] at hb
          | some c => exact ⟨c, rfl⟩
        rw [hc] at hstep ⊢
        have eH5 := (eH3.trans e4).trans e5
        have hbd : ∀ x ∈ d.drop i, x < 256 := fun x hx => hby x (List.mem_of_mem_drop hx)
        obtain ⟨b, r, hbr, hlt2⟩ := lenTold_charAt hbd hc
        obtain ⟨hic, r2, hr2⟩ := charAt_some hbd hc
        have hg : d[i]? = some b := by
          have := congrArg List.head? hbr
          rw [List.head?_drop] at this
          exact this
        have hfit : i + (utf8N c).length ≤ d.length := by
          have := congrArg List.length hr2
          rw [List.length_drop, List.length_append] at this
          omega
        refine q_appS (v := .int (c : Int)) (e5 _ _ (e4 _ _ (e3 _ _ hpl))) (ev_var rfl) (ev_var rfl) (by rw [nv_length]; exact Nat.lt_of_lt_of_le (by omega : acc.length < 10000000) (by decide)) fun H6 e6 => ?_
        have eH7 : Ex H (upd H6 p (.lst (nv acc ++ [.int (c : Int)]))) := Ex.mut (eH5.trans e6) hp
        refine s_aug (a := (i : Int)) (b := (lenTold b : Int)) rfl (call1 (ev_ixN (ev_var rfl) (ev_var rfl) (ex_l eH7 hS) (nv_get hg)) fun H8 e8 Q' hq E => ⟨b, rfl, hq⟩) fun H8 e8 => ?_
        have hpos := utf8N_pos c
        refine ⟨d.length - (i + (utf8N c).length), by omega, i + (utf8N c).length, acc ++ [c], some (.int (c : Int)), rfl, hfit, by rw [List.length_append]; simp; omega, ?_, eH7.trans e8, ?_, ?_⟩
        · rw [hlt2]
          rfl
        · rw [nv_app]
          exact e8 _ _ upd_same
        · rw [hdec, hstep]
          show ((decoded ((d.drop i).drop (utf8N c).length)).map fun t => c :: t).map (fun t => acc ++ t) = _
          rw [Option.map_map, List.drop_drop]
          congr 1
          funext t
          simp
    · rw [nv_length] at hb
      have hge : i = d.length := by simp at hb; omega
      subst hge
      rw [List.drop_length, decoded_nil] at hdec
      rw [hdec] at k
      have k' : RetL (nv (acc ++ [])) H Q := k
      rw [List.append_nil] at k'
      exact (ev_var rfl : Ev _ _ _ _) H3 (Ex.refl H3) _ fun H4 e4 => k' p H4 hp ((eH.trans e3).trans e4) (e4 _ _ (e3 _ _ hpl))
/-! bytes_of -/
def spBytesOf : Sp := fun vs H Q _ => ∃ n : Nat, vs = [.int n] ∧ n < 0x110000 ∧ RetL (nv (utf8N n)) H Q
theorem scBytesOf : FnScope ["character", "last", "third", "second"] ["character"] (defScope sBytesOf) := ⟨rfl, rfl, rfl, by decide +kernel, rfl, by decide +kernel, by decide +kernel⟩
theorem or_top {m a : Nat} (k : Nat) (h : a < 2 ^ k) : Builtin.bitOr (((m * 2 ^ k : Nat)) : Int) (a : Int) = ((m * 2 ^ k + a : Nat) : Int) := by
  have h2 : (((2 ^ k : Nat)) : Int) = (2 : Int) ^ k := by simp
  have e : (((m * 2 ^ k : Nat)) : Int) = (m : Int) * (2 : Int) ^ k := by
    rw [Int.natCast_mul, h2]
  rw [e, Bits.bitOr_join' (k := k) (by omega) (by rw [← h2]; omega) (by omega), Int.natCast_add, Int.natCast_mul, h2]
  omega
theorem ok_bytesOf {f : Addr} {fd : FuncData} (D : Dn K mg "bytes_of" sBytesOf ["character"] f fd) : FnOk P w K mg base CX0 1 f fd ["character"] spBytesOf := by
  refine D.F.ok scBytesOf (fun vs H Q E h => ?_) (fun cdv A outer s H vs Q E hr h => ?_)
  · obtain ⟨n, rfl, _⟩ := h
    rfl
  · obtain ⟨n, rfl, hn, k⟩ := h
    refine ⟨_, pss_cons (ps_if (pt_cmpR op_lt (pv 0) pe_int (nomark _)) (pss_one (ps_ret (pe_lst (pa_cons (pv 0) pa_nil)))) pss_nil)
      (pss_cons (ps_set (i := 1) scBytesOf.nd rfl (Or.inl rfl) (pe_op op_or pe_int (pe_op op_and (pv 0) pe_int)))
      (pss_cons (ps_if (pt_cmpR op_lt (pv 0) pe_int (nomark _)) (pss_one (ps_ret (pe_lst (pa_cons (pe_op op_or pe_int (pe_op op_shr (pv 0) pe_int)) (pa_cons (pv 1) pa_nil))))) pss_nil)
      (pss_cons (ps_set (i := 2) scBytesOf.nd rfl (Or.inl rfl) (pe_op op_or pe_int (pe_op op_and (pe_op op_shr (pv 0) pe_int) pe_int)))
      (pss_cons (ps_if (pt_cmpR op_lt (pv 0) pe_int (nomark _)) (pss_one (ps_ret (pe_lst (pa_cons (pe_op op_or pe_int (pe_op op_shr (pv 0) pe_int)) (pa_cons (pv 2) (pa_cons (pv 1) pa_nil)))))) pss_nil)
      (pss_cons (ps_set (i := 3) scBytesOf.nd rfl (Or.inl rfl) (pe_op op_or pe_int (pe_op op_and (pe_op op_shr (pv 0) pe_int) pe_int)))
      (pss_one (ps_ret (pe_lst (pa_cons (pe_op op_or pe_int (pe_op op_shr (pv 0) pe_int)) (pa_cons (pv 3) (pa_cons (pv 2) (pa_cons (pv 1) pa_nil)))))))))))), ?_⟩
    have m63 : ∀ x : Nat, Builtin.bitAnd (x : Int) 63 = ((x % 64 : Nat) : Int) := fun x => mask_low (b := x) 6
    have o128 : ∀ x : Nat, x < 64 → Builtin.bitOr 128 (x : Int) = ((128 + x : Nat) : Int) := fun x h => or_top (m := 2) 6 (by omega)
    have sh : ∀ (x : Nat) (j : Nat), ((x : Int) / 2 ^ j) = ((x / 2 ^ j : Nat) : Int) := fun x j => by
      have : ((2 : Int) ^ j) = ((2 ^ j : Nat) : Int) := by simp
      rw [this]
      omega
    refine q_when (b := decide ((n : Int) < 128)) (et_test (ev_op (ev_var rfl) ev_c rv_I0)) (fun hb H1 e1 => ?_) (fun hb H1 e1 => ?_)
    · have e : utf8N n = [n] := if_pos (by simp at hb; omega)
      rw [e] at k
      exact el_lst (ea_cons (ev_var rfl) ea_nil) (by show 1 ≤ 100000; decide) H1 (Ex.refl H1) _ fun p H2 hp e2 h2 => k p H2 (fresh_back e1 hp) (e1.trans e2) h2
    have g1 : ¬ n < 0x80 := by simp at hb; omega
    have u1 : utf8N n = (if n < 0x800 then [0xC0 + n / 64, 0x80 + n % 64] else if n < 0x10000 then [0xE0 + n / 4096, 0x80 + n / 64 % 64, 0x80 + n % 64] else [0xF0 + n / 262144, 0x80 + n / 4096 % 64, 0x80 + n / 64 % 64, 0x80 + n % 64]) := if_neg g1
    refine q_asg (v := .int ((128 + n % 64 : Nat) : Int)) (ev_is (ev_op ev_c (ev_op (ev_var rfl) ev_c rv_I0) rv_I0) (congrArg V.int (by rw [m63, o128 _ (by omega)]))) fun H2 e2 => ?_
    refine q_when (b := decide ((n : Int) < 2048)) (et_test (ev_op (ev_var rfl) ev_c rv_I0)) (fun hb H3 e3 => ?_) (fun hb H3 e3 => ?_)
    · have g2 : n < 0x800 := by simp at hb; omega
      rw [u1, if_pos g2] at k
      have x1 : Ev (tOp (rI0 fun i j => .int (Builtin.bitOr i j)) (tC (.int 192)) (tOp (rI (fun _ j => 0 ≤ j) fun i j => .int (i / 2 ^ j.toNat)) (tVar 0) (tC (.int 6)))) ((start ["character", "last", "third", "second"] [V.int (n : Int)]).set 1 (some (.int ((128 + n % 64 : Nat) : Int)))) H3 (.int ((0xC0 + n / 64 : Nat) : Int)) :=
        ev_is (ev_op ev_c (ev_op (ev_var rfl) ev_c (rv_I (by decide))) rv_I0) (congrArg V.int (by
          show Builtin.bitOr 192 ((n : Int) / 2 ^ 6) = _
          rw [sh]
          exact or_top (m := 6) 5 (by omega)))
      exact el_lst (ea_cons x1 (ea_cons (ev_var rfl) ea_nil)) (by show 2 ≤ 100000; decide) H3 (Ex.refl H3) _ fun p H4 hp e4 h4 => k p H4 (fresh_back ((e1.trans e2).trans e3) hp) (((e1.trans e2).trans e3).trans e4) h4
    have g2 : ¬ n < 0x800 := by simp at hb; omega
    rw [if_neg g2] at u1
    refine q_asg (v := .int ((128 + n / 64 % 64 : Nat) : Int)) (ev_is (ev_op ev_c (ev_op (ev_op (ev_var rfl) ev_c (rv_I (by decide))) ev_c rv_I0) rv_I0) (congrArg V.int (by
      show Builtin.bitOr 128 (Builtin.bitAnd ((n : Int) / 2 ^ 6) 63) = _
      rw [sh, m63, o128 _ (by omega)]))) fun H4 e4 => ?_
    refine q_when (b := decide ((n : Int) < 65536)) (et_test (ev_op (ev_var rfl) ev_c rv_I0)) (fun hb H5 e5 => ?_) (fun hb H5 e5 => ?_)
    · have g3 : n < 0x10000 := by simp at hb; omega
      rw [u1, if_pos g3] at k
      have x1 : Ev (tOp (rI0 fun i j => .int (Builtin.bitOr i j)) (tC (.int 224)) (tOp (rI (fun _ j => 0 ≤ j) fun i j => .int (i / 2 ^ j.toNat)) (tVar 0) (tC (.int 12)))) (((start ["character", "last", "third", "second"] [V.int (n : Int)]).set 1 (some (.int ((128 + n % 64 : Nat) : Int)))).set 2 (some (.int ((128 + n / 64 % 64 : Nat) : Int)))) H5 (.int ((0xE0 + n / 4096 : Nat) : Int)) :=
        ev_is (ev_op ev_c (ev_op (ev_var rfl) ev_c (rv_I (by decide))) rv_I0) (congrArg V.int (by
          show Builtin.bitOr 224 ((n : Int) / 2 ^ 12) = _
          rw [sh]
          exact or_top (m := 14) 4 (by omega)))
      have e5' := (((e1.trans e2).trans e3).trans e4).trans e5
      exact el_lst (ea_cons x1 (ea_cons (ev_var rfl) (ea_cons (ev_var rfl) ea_nil))) (by show 3 ≤ 100000; decide) H5 (Ex.refl H5) _ fun p H6 hp e6 h6 => k p H6 (fresh_back e5' hp) (e5'.trans e6) h6
    have g3 : ¬ n < 0x10000 := by simp at hb; omega
    rw [if_neg g3] at u1
    refine q_asg (v := .int ((128 + n / 4096 % 64 : Nat) : Int)) (ev_is (ev_op ev_c (ev_op (ev_op (ev_var rfl) ev_c (rv_I (by decide))) ev_c rv_I0) rv_I0) (congrArg V.int (by
      show Builtin.bitOr 128 (Builtin.bitAnd ((n : Int) / 2 ^ 12) 63) = _
      rw [sh, m63, o128 _ (by omega)]))) fun H6 e6 => ?_
    rw [u1] at k
    have x1 : Ev (tOp (rI0 fun i j => .int (Builtin.bitOr i j)) (tC (.int 240)) (tOp (rI (fun _ j => 0 ≤ j) fun i j => .int (i / 2 ^ j.toNat)) (tVar 0) (tC (.int 18)))) ((((start ["character", "last", "third", "second"] [V.int (n : Int)]).set 1 (some (.int ((128 + n % 64 : Nat) : Int)))).set 2 (some (.int ((128 + n / 64 % 64 : Nat) : Int)))).set 3 (some (.int ((128 + n / 4096 % 64 : Nat) : Int)))) H6 (.int ((0xF0 + n / 262144 : Nat) : Int)) :=
      ev_is (ev_op ev_c (ev_op (ev_var rfl) ev_c (rv_I (by decide))) rv_I0) (congrArg V.int (by
        show Builtin.bitOr 240 ((n : Int) / 2 ^ 18) = _
        rw [sh]
        exact or_top (m := 30) 3 (by omega)))
    have e6' := ((((e1.trans e2).trans e3).trans e4).trans e5).trans e6
    exact el_lst (ea_cons x1 (ea_cons (ev_var rfl) (ea_cons (ev_var rfl) (ea_cons (ev_var rfl) ea_nil)))) (by show 4 ≤ 100000; decide) H6 (Ex.refl H6) _ fun p H7 hp e7 h7 => k p H7 (fresh_back e6' hp) (e6'.trans e7) h7
/-! encoded -/
def spEncoded (K : PySem.W.Frag) : Sp := fun vs H Q _ => ∃ (a : Addr) (t : List Nat), vs = [.ref a] ∧ SqL K H a (nv t) ∧ (∀ c ∈ t, c < 0x110000) ∧ t.length ≤ 100000 ∧ RetL (nv (encoded t)) H Q
theorem scEncoded : FnScope ["row", "data", "character"] ["row"] (defScope sEncoded) := ⟨rfl, rfl, rfl, by decide +kernel, rfl, by decide +kernel, by decide +kernel⟩
theorem utf8N_le4 {c : Nat} (h : c < 0x110000) : (utf8N c).length ≤ 4 := by
  rcases utf8N_length h with h | h | h | h <;> omega
theorem encoded_le : ∀ {t : List Nat}, (∀ c ∈ t, c < 0x110000) → (encoded t).length ≤ 4 * t.length
  | [], _ => Nat.le_refl _
  | c :: t, h => by
    rw [encoded_cons, List.length_append, List.length_cons]
    have h1 := utf8N_le4 (h c List.mem_cons_self)
    have h2 := encoded_le fun x hx => h x (List.mem_cons_of_mem _ hx)
    omega
theorem ok_encoded {f f1 : Addr} {fd fd1 : FuncData} (D : Dn K mg "encoded" sEncoded ["row"] f fd) (D1 : Dn K mg "bytes_of" sBytesOf ["character"] f1 fd1) (G1 : FnOk P w K mg base CX0 1 f1 fd1 ["character"] spBytesOf) :
    FnOk P w K mg base CX0 2 f fd ["row"] (spEncoded K) := by
  refine D.F.ok scEncoded (fun vs H Q E h => ?_) (fun cdv A outer s H vs Q E hr h => ?_)
  · obtain ⟨a, t, rfl, _⟩ := h
    rfl
  · obtain ⟨a, t, rfl, hS, hch, hl, k⟩ := h
    have hr1 : Room 1 _ := hr.mono (by decide)
    refine ⟨_, pss_cons (ps_set (i := 1) scEncoded.nd rfl (Or.inl rfl) (pe_lst pa_nil))
      (pss_cons (ps_for PassesOwn.never rfl (pi_list (pv 0)) (pg_name (i := 2) scEncoded.nd rfl (Or.inl rfl))
        (pss_one (ps_expr (pe_bm PySem.F.plainAttrs_list PySem.F.slot_list_extend PySem.F.type_list_extend mt_extend (pv 1) (pa_cons (pe_call G1 hr1 rfl D1.g D1.kp D1.b .nil pass0 (pa_cons (pv 2) pa_nil)) pa_nil)))))
      (pss_one (ps_ret (pv 1)))), ?_⟩
    refine q_asgL ev_lst0 fun p H1 hp e1 h1 => ?_
    refine q_forLn (K := K) (a := a) (xs := nv t) (ev_var rfl) (ex_l e1 hS) (fun i σ' H' => ∃ v2 : Option V, σ' = [some (.ref a), some (.ref p), v2] ∧ Ex H H' ∧ H' p = some (.lst (nv (encoded (t.take i)))))
      (fun H2 e2 => ⟨none, rfl, e1.trans e2, e2 _ _ h1⟩) (fun i σ' H' _ ⟨_, _, e, _⟩ => ex_l e hS) ?_ ?_
    · rintro i x σ' H' hx ⟨v2, rfl, eH, hp2⟩
      obtain ⟨c, hc, rfl⟩ : ∃ c, t[i]? = some c ∧ x = .int (c : Int) := by
        rw [List.getElem?_map] at hx
        cases q : t[i]? with
        | none => rw [q] at hx; cases hx
        | some y => rw [q] at hx; exact ⟨y, rfl, (Option.some.inj hx).symm⟩
      have hcc : c < 0x110000 := hch c (List.mem_of_getElem? hc)
      have h1 := encoded_le (t := t.take i) fun x hx => hch x (List.mem_of_mem_take hx)
      have h2 := utf8N_le4 hcc
      rw [List.length_take] at h1
      refine s_extL hp2 (ev_var rfl) (call1L (ev_var rfl) fun H2 e2 Q' hq E => ⟨c, rfl, hcc, hq⟩) (by rw [nv_length, nv_length]; exact sz_ok (by omega)) fun H2 e2 => ⟨_, rfl, Ex.mut (eH.trans e2) hp, ?_⟩
      rw [take_succ_of hc, encoded_app, nv_app]
      have e3 : encoded [c] = utf8N c := by
        show utf8N c ++ [] = utf8N c
        rw [List.append_nil]
      rw [e3]
      exact upd_same
    · rintro σ' H' ⟨v2, rfl, eH, hp2⟩
      rw [nv_length, List.take_length] at hp2
      exact (ev_var rfl : Ev _ _ _ _) H' (Ex.refl H') _ fun H2 e2 => k p H2 hp (eH.trans e2) (e2 _ _ hp2)
end
end So
/-! lines.py: lines, parts, numbers -/
namespace So
open PySem PySem.Spec PyProof.Rows L2 Evl
open PySem.W (EachIs)
abbrev sLinesOf : Stmt := top 45
abbrev sPartsOf : Stmt := top 46
abbrev sNumberIn : Stmt := top 47
abbrev sIsFilled : Stmt := top 48
abbrev sWordIn : Stmt := top 49
abbrev sFaultKind : Stmt := top 50
abbrev sDigitsOf : Stmt := top 51
abbrev sLineOf : Stmt := top 52
abbrev sTextOf : Stmt := top 53
structure TxtL (K : PySem.W.Frag) (mg : Str → Option Value) : Prop where
  LE : IntC mg "LINE_END" 10
  D0 : IntC mg "DIGIT_0" 48
  D9 : IntC mg "DIGIT_9" 57
  PA : IntC mg "PARTS" 5
  TL : IntC mg "TOO_LARGE" 65536
  NF : IntC mg "NO_FAULT" 0
  NL : IntC mg "NO_LINE" 1
  BY : IntC mg "BEYOND_LIMITS" 2
  SA : IntC mg "SAME_AS_BEFORE" 3
  TM : IntC mg "TOO_MANY" 4
  MW : IntC mg "MOST_WORDS" 128
  min : mg "min" = none
  any : mg "any" = none
  ord : mg "ord" = none
  str : mg "str" = none
/-- rows at addresses -/
abbrev RowsAt (K : PySem.W.Frag) (H : Hp) (la : List Addr) (ls : List (List Nat)) : Prop := EachIs (fun a r => SqL K H a (nv r)) la ls
theorem RowsAt.mono {K : PySem.W.Frag} {H H' : Hp} {la : List Addr} {ls : List (List Nat)} (e : Ex H H') (h : RowsAt K H la ls) : RowsAt K H' la ls := EachIs.mono (fun _ _ q => ex_l e q) h
def RetRows (K : PySem.W.Frag) (ls : List (List Nat)) (H : Hp) (Q : VK) : Prop := ∀ (p : Addr) (la : List Addr) (H2 : Hp), H p = none → Ex H H2 → H2 p = some (.lst (la.map V.ref)) → RowsAt K H2 la ls → Q (.ref p) H2
/-- rows that are being made: their lists stand at addresses other than those two that still change -/
abbrev Made (H : Hp) (p q : Addr) (la : List Addr) (ls : List (List Nat)) : Prop := EachIs (fun a r => H a = some (.lst (nv r)) ∧ a ≠ p ∧ a ≠ q) la ls
theorem Made.mono {H H' : Hp} {p q : Addr} {la : List Addr} {ls : List (List Nat)} (h : Made H p q la ls) (e : Ex H H') : Made H' p q la ls := EachIs.mono (fun _ _ k => ⟨e _ _ k.1, k.2⟩) h
theorem Made.upd {H : Hp} {p q x : Addr} {o : HO} {la : List Addr} {ls : List (List Nat)} (h : Made H p q la ls) (hx : x = p ∨ x = q) : Made (upd H x o) p q la ls := EachIs.mono (fun a _ k => ⟨by
  rw [upd_ne (by rcases hx with rfl | rfl; exact k.2.1; exact k.2.2)]
  exact k.1, k.2⟩) h
theorem Made.rows {K : PySem.W.Frag} {H : Hp} {p q : Addr} {la : List Addr} {ls : List (List Nat)} (h : Made H p q la ls) : RowsAt K H la ls := EachIs.mono (fun _ _ k => sq_of k.1) h
/-- the row at q is taken in; from now on another row q2 is being made -/
theorem Made.take {H : Hp} {p q q2 : Addr} {la : List Addr} {ls : List (List Nat)} {r : List Nat} (h : Made H p q la ls) (hr : H q = some (.lst (nv r))) (hp : q ≠ p) (h2 : H q2 = none) : Made H p q2 (la ++ [q]) (ls ++ [r]) :=
  each_app1 (R := fun a r => H a = some (.lst (nv r)) ∧ a ≠ p ∧ a ≠ q2) ⟨hr, hp, ne_of_none hr h2⟩ (EachIs.mono (fun _ _ k => ⟨k.1, k.2.1, ne_of_none k.1 h2⟩) h)
theorem refs_app (la : List Addr) (a : Addr) : la.map V.ref ++ [V.ref a] = (la ++ [a]).map V.ref := by rw [List.map_append]; rfl
theorem int_item {xs : List Nat} {i : Nat} {x : V} (hx : (nv xs)[i]? = some x) : ∃ c, xs[i]? = some c ∧ x = .int (c : Int) := by
  rw [List.getElem?_map] at hx
  cases q : xs[i]? with
  | none => rw [q] at hx; cases hx
  | some y => rw [q] at hx; exact ⟨y, rfl, (Option.some.inj hx).symm⟩
section
variable {P : Program} {w : World} {K : PySem.W.Frag} {mg : Str → Option Value} {base : Heap} {CW : Addr}
/-! lines_of -/
def spLinesOf (K : PySem.W.Frag) : Sp := fun vs H Q _ => ∃ (a : Addr) (d : List Nat), vs = [.ref a] ∧ SqL K H a (nv d) ∧ d.length ≤ 60000 ∧ RetRows K (linesOf d) H Q
theorem scLinesOf : FnScope ["data", "lines", "line", "byte"] ["data"] (defScope sLinesOf) := ⟨rfl, rfl, rfl, by decide +kernel, rfl, by decide +kernel, by decide +kernel⟩
theorem lineRun_small (d : List Nat) : (lineRun d).1.length + (lineRun d).2.length ≤ d.length := by
  have key : ∀ (d : List Nat) (s : List (List Nat) × List Nat), (d.foldl lineStep s).1.length + (d.foldl lineStep s).2.length ≤ s.1.length + s.2.length + d.length := by
    intro d
    induction d with
    | nil => intro s; exact Nat.le_refl _
    | cons b d ih =>
      intro s
      rw [List.foldl_cons, List.length_cons]
      refine Nat.le_trans (ih _) ?_
      unfold lineStep
      split
      · simp
        omega
      · simp
        omega
  have := key d ([], [])
  unfold lineRun
  simpa using this
theorem lineRun_more {d : List Nat} {i : Nat} {b : Nat} (h : d[i]? = some b) : lineRun (d.take (i + 1)) = lineStep (lineRun (d.take i)) b := by
  unfold lineRun
  rw [take_succ_of h, List.foldl_append]; rfl
theorem ok_linesOf {f : Addr} {fd : FuncData} (D : Dn K mg "lines_of" sLinesOf ["data"] f fd) (T : TxtR K mg CW) (L : TxtL K mg) : FnOk P w K mg base CX0 1 f fd ["data"] (spLinesOf K) := by
  refine D.F.ok scLinesOf (fun vs H Q E h => ?_) (fun cdv A outer s H vs Q E hr h => ?_)
  · obtain ⟨a, r, rfl, _⟩ := h
    rfl
  · obtain ⟨a, d, rfl, hS, hl, k⟩ := h
    refine ⟨_, pss_cons (ps_set (i := 1) scLinesOf.nd rfl (Or.inl rfl) (pe_lst pa_nil)) (pss_cons (ps_set (i := 2) scLinesOf.nd rfl (Or.inl rfl) (pe_lst pa_nil))
      (pss_cons (ps_for PassesOwn.never rfl (pi_list (pv 0)) (pg_name (i := 3) scLinesOf.nd rfl (Or.inl rfl))
        (pss_cons (ps_expr (pe_bm PySem.F.plainAttrs_list PySem.F.slot_list_append PySem.F.type_list_append mt_append (pv 2) (pa_cons (pv 3) pa_nil)))
        (pss_one (ps_if (pt_cmpR op_eq (pv 3) (pe_ic L.LE) (nomark _))
          (pss_cons (ps_expr (pe_bm PySem.F.plainAttrs_list PySem.F.slot_list_append PySem.F.type_list_append mt_append (pv 1) (pa_cons (pv 2) pa_nil))) (pss_one (ps_set (i := 2) scLinesOf.nd rfl (Or.inl rfl) (pe_lst pa_nil)))) pss_nil))))
      (pss_cons (ps_if (pt_cmpR op_gt (pe_callB call_len_seq (by rfl) T.len PySem.boot_len (pa_cons (pv 2) pa_nil)) pe_int (nomark _))
        (pss_one (ps_expr (pe_bm PySem.F.plainAttrs_list PySem.F.slot_list_append PySem.F.type_list_append mt_append (pv 1) (pa_cons (pv 2) pa_nil)))) pss_nil)
      (pss_one (ps_ret (pv 1)))))), ?_⟩
    refine q_asgL ev_lst0 fun p H1 hp e1 h1 => ?_
    refine q_asgL ev_lst0 fun q H2 hq e2 h2 => ?_
    have npq : q ≠ p := (ne_of_none h1 hq).symm
    have hq0 : H q = none := fresh_back e1 hq
    refine q_forLn (K := K) (a := a) (xs := nv d) (ev_var rfl) (ex_l (e1.trans e2) hS) (fun i σ' H' => ∃ (q : Addr) (la : List Addr) (v3 : Option V), σ' = [some (.ref a), some (.ref p), some (.ref q), v3] ∧ Ex H H' ∧ H q = none ∧ q ≠ p ∧ H' p = some (.lst (la.map V.ref)) ∧
        H' q = some (.lst (nv (lineRun (d.take i)).2)) ∧ Made H' p q la (lineRun (d.take i)).1)
      (fun H3 e3 => ⟨q, [], none, rfl, (e1.trans e2).trans e3, hq0, npq, e3 _ _ (e2 _ _ h1), e3 _ _ h2, .nil⟩) (fun i σ' H' _ ⟨_, _, _, _, e, _⟩ => ex_l e hS) ?_ ?_
    · rintro i x σ' H' hx ⟨q, la, v3, rfl, eH, hq0, npq, hpl, hql, hm⟩
      obtain ⟨b, hb, rfl⟩ := int_item hx
      have hi : i < d.length := (List.getElem?_eq_some_iff.mp hb).1
      have sm := lineRun_small (d.take i)
      rw [List.length_take] at sm
      have step := lineRun_more hb
      refine q_appS (v := .int (b : Int)) hql (ev_var rfl) (ev_var rfl) (by rw [nv_length]; exact Nat.lt_of_lt_of_le (by omega : _ < 10000000) (by decide)) fun H3 e3 => ?_
      have eH4 : Ex H (upd H3 q (.lst (nv (lineRun (d.take i)).2 ++ [.int (b : Int)]))) := Ex.mut (eH.trans e3) hq0
      have hm4 : Made (upd H3 q (.lst (nv (lineRun (d.take i)).2 ++ [.int (b : Int)]))) p q la (lineRun (d.take i)).1 := (hm.mono e3).upd (.inr rfl)
      have hp4 : upd H3 q (.lst (nv (lineRun (d.take i)).2 ++ [.int (b : Int)])) p = some (.lst (la.map V.ref)) := by
        rw [upd_ne npq.symm]
        exact e3 _ _ hpl
      have hq4 : upd H3 q (.lst (nv (lineRun (d.take i)).2 ++ [.int (b : Int)])) q = some (.lst (nv ((lineRun (d.take i)).2 ++ [b]))) := by
        rw [nv_app]
        exact upd_same
      generalize upd H3 q (.lst (nv (lineRun (d.take i)).2 ++ [.int (b : Int)])) = H4 at *
      have lal : la.length = (lineRun (d.take i)).1.length := hm.length
      refine s_when (b := decide (V.int (b : Int) = .int 10)) (et_test (ev_op (ev_var rfl) ev_c (rv_eq rfl))) (fun hb H5 e5 => ?_) (fun hb H5 e5 => ?_)
      · have eb : b = 10 := by simp at hb; omega
        have st2 : lineStep (lineRun (d.take i)) b = ((lineRun (d.take i)).1 ++ [(lineRun (d.take i)).2 ++ [b]], []) := if_pos eb
        refine q_appS (v := .ref q) (e5 _ _ hp4) (ev_var rfl) (ev_var rfl) (by rw [List.length_map, lal]; exact Nat.lt_of_lt_of_le (by omega : _ < 10000000) (by decide)) fun H6 e6 => ?_
        have eH7 : Ex H (upd H6 p (.lst (la.map V.ref ++ [.ref q]))) := Ex.mut ((eH4.trans e5).trans e6) hp
        have hq7 : upd H6 p (.lst (la.map V.ref ++ [.ref q])) q = some (.lst (nv ((lineRun (d.take i)).2 ++ [b]))) := by
          rw [upd_ne npq]
          exact e6 _ _ (e5 _ _ hq4)
        have hm7 : Made (upd H6 p (.lst (la.map V.ref ++ [.ref q]))) p q la (lineRun (d.take i)).1 := (hm4.mono (e5.trans e6)).upd (.inl rfl)
        refine s_asgL ev_lst0 fun q2 H8 hq2 e8 h8 => ⟨q2, la ++ [q], _, rfl, eH7.trans e8, fresh_back eH7 hq2, (ne_of_none upd_same hq2).symm, ?_, ?_, ?_⟩
        · rw [← refs_app]
          exact e8 _ _ upd_same
        · rw [step, st2]
          exact h8
        · rw [step, st2]
          exact (hm7.take hq7 npq hq2).mono e8
      · have eb : ¬ b = 10 := by simp at hb; omega
        have st2 : lineStep (lineRun (d.take i)) b = ((lineRun (d.take i)).1, (lineRun (d.take i)).2 ++ [b]) := if_neg eb
        refine ⟨q, la, _, rfl, eH4.trans e5, hq0, npq, e5 _ _ hp4, ?_, ?_⟩
        · rw [step, st2]
          exact e5 _ _ hq4
        · rw [step, st2]
          exact hm4.mono e5
    · rintro σ' H' ⟨q, la, v3, rfl, eH, hq0, npq, hpl, hql, hm⟩
      rw [nv_length, List.take_length] at hql hm
      have k' : RetRows K (lineEnd (lineRun d)) H Q := by rw [lineRun_is]; exact k
      have sm := lineRun_small d
      have lal : la.length = (lineRun d).1.length := hm.length
      have hlen : Ev (tCB (rLenS K) (tCons (tVar 2) tNil)) [some (.ref a), some (.ref p), some (.ref q), v3] H' (.int ((nv (lineRun d).2).length : Int)) := ev_len (ev_var rfl) (sq_of hql)
      refine q_when (b := decide ((0 : Int) < ((nv (lineRun d).2).length : Int))) (et_test (ev_op hlen ev_c rv_I0)) (fun hb H5 e5 => ?_) (fun hb H5 e5 => ?_)
      · rw [nv_length] at hb
        have e : lineEnd (lineRun d) = (lineRun d).1 ++ [(lineRun d).2] := if_pos (by simp at hb ⊢; omega)
        rw [e] at k'
        refine s_appS (v := .ref q) (e5 _ _ hpl) (ev_var rfl) (ev_var rfl) (by rw [List.length_map, lal]; exact Nat.lt_of_lt_of_le (by omega : _ < 10000000) (by decide)) fun H6 e6 => ?_
        have eH7 : Ex H (upd H6 p (.lst (la.map V.ref ++ [.ref q]))) := Ex.mut ((eH.trans e5).trans e6) hp
        have hq7 : upd H6 p (.lst (la.map V.ref ++ [.ref q])) q = some (.lst (nv (lineRun d).2)) := by
          rw [upd_ne npq]
          exact e6 _ _ (e5 _ _ hql)
        have hm7 : Made (upd H6 p (.lst (la.map V.ref ++ [.ref q]))) p q la (lineRun d).1 := (hm.mono (e5.trans e6)).upd (.inl rfl)
        refine (ev_var rfl : Ev _ _ _ _) _ (Ex.refl _) _ fun H8 e8 => k' p (la ++ [q]) H8 hp (eH7.trans e8) ?_ ?_
        · rw [← refs_app]
          exact e8 _ _ upd_same
        · exact RowsAt.mono e8 (each_app1 (R := fun a r => SqL K _ a (nv r)) (sq_of hq7) hm7.rows)
      · rw [nv_length] at hb
        have e : lineEnd (lineRun d) = (lineRun d).1 := if_neg (by simp at hb ⊢; omega)
        rw [e] at k'
        exact (ev_var rfl : Ev _ _ _ _) H5 (Ex.refl H5) _ fun H8 e8 => k' p la H8 hp ((eH.trans e5).trans e8) (e8 _ _ (e5 _ _ hpl)) (RowsAt.mono e8 ((hm.mono e5).rows))
/-! parts_of -/
def spPartsOf (K : PySem.W.Frag) : Sp := fun vs H Q _ => ∃ (a : Addr) (d : List Nat), vs = [.ref a] ∧ SqL K H a (nv d) ∧ d.length ≤ 60000 ∧ RetRows K (partsOf 32 d) H Q
theorem scPartsOf : FnScope ["row", "parts", "part", "character"] ["row"] (defScope sPartsOf) := ⟨rfl, rfl, rfl, by decide +kernel, rfl, by decide +kernel, by decide +kernel⟩
theorem partRun_small (d : List Nat) : (partRun 32 d).1.length + (partRun 32 d).2.length ≤ d.length := by
  have key : ∀ (d : List Nat) (s : List (List Nat) × List Nat), (d.foldl (partStep 32) s).1.length + (d.foldl (partStep 32) s).2.length ≤ s.1.length + s.2.length + d.length := by
    intro d
    induction d with
    | nil => intro s; exact Nat.le_refl _
    | cons b d ih =>
      intro s
      rw [List.foldl_cons, List.length_cons]
      refine Nat.le_trans (ih _) ?_
      unfold partStep
      split
      · simp
        omega
      · simp
        omega
  have := key d ([], [])
  unfold partRun
  simpa using this
theorem partRun_more {d : List Nat} {i : Nat} {b : Nat} (h : d[i]? = some b) : partRun 32 (d.take (i + 1)) = partStep 32 (partRun 32 (d.take i)) b := by
  unfold partRun
  rw [take_succ_of h, List.foldl_append]; rfl
theorem ok_partsOf {f : Addr} {fd : FuncData} (D : Dn K mg "parts_of" sPartsOf ["row"] f fd) (T : TxtR K mg CW) : FnOk P w K mg base CX0 1 f fd ["row"] (spPartsOf K) := by
  refine D.F.ok scPartsOf (fun vs H Q E h => ?_) (fun cdv A outer s H vs Q E hr h => ?_)
  · obtain ⟨a, r, rfl, _⟩ := h
    rfl
  · obtain ⟨a, d, rfl, hS, hl, k⟩ := h
    refine ⟨_, pss_cons (ps_set (i := 1) scPartsOf.nd rfl (Or.inl rfl) (pe_lst pa_nil)) (pss_cons (ps_set (i := 2) scPartsOf.nd rfl (Or.inl rfl) (pe_lst pa_nil))
      (pss_cons (ps_for PassesOwn.never rfl (pi_list (pv 0)) (pg_name (i := 3) scPartsOf.nd rfl (Or.inl rfl))
        (pss_one (ps_if (pt_cmpR op_eq (pv 3) (pe_ic T.BL) (nomark _))
          (pss_cons (ps_expr (pe_bm PySem.F.plainAttrs_list PySem.F.slot_list_append PySem.F.type_list_append mt_append (pv 1) (pa_cons (pv 2) pa_nil))) (pss_one (ps_set (i := 2) scPartsOf.nd rfl (Or.inl rfl) (pe_lst pa_nil))))
          (pss_one (ps_expr (pe_bm PySem.F.plainAttrs_list PySem.F.slot_list_append PySem.F.type_list_append mt_append (pv 2) (pa_cons (pv 3) pa_nil)))))))
      (pss_cons (ps_expr (pe_bm PySem.F.plainAttrs_list PySem.F.slot_list_append PySem.F.type_list_append mt_append (pv 1) (pa_cons (pv 2) pa_nil)))
      (pss_one (ps_ret (pv 1)))))), ?_⟩
    refine q_asgL ev_lst0 fun p H1 hp e1 h1 => ?_
    refine q_asgL ev_lst0 fun q H2 hq e2 h2 => ?_
    have npq : q ≠ p := (ne_of_none h1 hq).symm
    have hq0 : H q = none := fresh_back e1 hq
    refine q_forLn (K := K) (a := a) (xs := nv d) (ev_var rfl) (ex_l (e1.trans e2) hS) (fun i σ' H' => ∃ (q : Addr) (la : List Addr) (v3 : Option V), σ' = [some (.ref a), some (.ref p), some (.ref q), v3] ∧ Ex H H' ∧ H q = none ∧ q ≠ p ∧ H' p = some (.lst (la.map V.ref)) ∧
        H' q = some (.lst (nv (partRun 32 (d.take i)).2)) ∧ Made H' p q la (partRun 32 (d.take i)).1)
      (fun H3 e3 => ⟨q, [], none, rfl, (e1.trans e2).trans e3, hq0, npq, e3 _ _ (e2 _ _ h1), e3 _ _ h2, .nil⟩) (fun i σ' H' _ ⟨_, _, _, _, e, _⟩ => ex_l e hS) ?_ ?_
    · rintro i x σ' H' hx ⟨q, la, v3, rfl, eH, hq0, npq, hpl, hql, hm⟩
      obtain ⟨b, hb, rfl⟩ := int_item hx
      have hi : i < d.length := (List.getElem?_eq_some_iff.mp hb).1
      have sm := partRun_small (d.take i)
      rw [List.length_take] at sm
      have step := partRun_more hb
      have lal : la.length = (partRun 32 (d.take i)).1.length := hm.length
      refine s_if (b := decide (V.int (b : Int) = .int 32)) (et_test (ev_op (ev_var rfl) ev_c (rv_eq rfl))) (fun hb H5 e5 => ?_) (fun hb H5 e5 => ?_)
      · have eb : b = 32 := by simp at hb; omega
        have st2 : partStep 32 (partRun 32 (d.take i)) b = ((partRun 32 (d.take i)).1 ++ [(partRun 32 (d.take i)).2], []) := if_pos eb
        refine q_appS (v := .ref q) (e5 _ _ hpl) (ev_var rfl) (ev_var rfl) (by rw [List.length_map, lal]; exact Nat.lt_of_lt_of_le (by omega : _ < 10000000) (by decide)) fun H6 e6 => ?_
        have eH7 : Ex H (upd H6 p (.lst (la.map V.ref ++ [.ref q]))) := Ex.mut ((eH.trans e5).trans e6) hp
        have hq7 : upd H6 p (.lst (la.map V.ref ++ [.ref q])) q = some (.lst (nv (partRun 32 (d.take i)).2)) := by
          rw [upd_ne npq]
          exact e6 _ _ (e5 _ _ hql)
        have hm7 : Made (upd H6 p (.lst (la.map V.ref ++ [.ref q]))) p q la (partRun 32 (d.take i)).1 := (hm.mono (e5.trans e6)).upd (.inl rfl)
        refine s_asgL ev_lst0 fun q2 H8 hq2 e8 h8 => ⟨q2, la ++ [q], _, rfl, eH7.trans e8, fresh_back eH7 hq2, (ne_of_none upd_same hq2).symm, ?_, ?_, ?_⟩
        · rw [← refs_app]
          exact e8 _ _ upd_same
        · rw [step, st2]
          exact h8
        · rw [step, st2]
          exact (hm7.take hq7 npq hq2).mono e8
      · have eb : ¬ b = 32 := by simp at hb; omega
        have st2 : partStep 32 (partRun 32 (d.take i)) b = ((partRun 32 (d.take i)).1, (partRun 32 (d.take i)).2 ++ [b]) := if_neg eb
        refine s_appS (v := .int (b : Int)) (e5 _ _ hql) (ev_var rfl) (ev_var rfl) (by rw [nv_length]; exact Nat.lt_of_lt_of_le (by omega : _ < 10000000) (by decide)) fun H6 e6 => ⟨q, la, _, rfl, Ex.mut ((eH.trans e5).trans e6) hq0, hq0, npq, ?_, ?_, ?_⟩
        · rw [upd_ne npq.symm]
          exact e6 _ _ (e5 _ _ hpl)
        · rw [step, st2, nv_app]
          exact upd_same
        · rw [step, st2]
          exact (hm.mono (e5.trans e6)).upd (.inr rfl)
    · rintro σ' H' ⟨q, la, v3, rfl, eH, hq0, npq, hpl, hql, hm⟩
      rw [nv_length, List.take_length] at hql hm
      have k' : RetRows K ((partRun 32 d).1 ++ [(partRun 32 d).2]) H Q := by rw [partRun_is]; exact k
      have sm := partRun_small d
      have lal : la.length = (partRun 32 d).1.length := hm.length
      refine q_appS (v := .ref q) hpl (ev_var rfl) (ev_var rfl) (by rw [List.length_map, lal]; exact Nat.lt_of_lt_of_le (by omega : _ < 10000000) (by decide)) fun H6 e6 => ?_
      have eH7 : Ex H (upd H6 p (.lst (la.map V.ref ++ [.ref q]))) := Ex.mut (eH.trans e6) hp
      have hq7 : upd H6 p (.lst (la.map V.ref ++ [.ref q])) q = some (.lst (nv (partRun 32 d).2)) := by
        rw [upd_ne npq]
        exact e6 _ _ hql
      have hm7 : Made (upd H6 p (.lst (la.map V.ref ++ [.ref q]))) p q la (partRun 32 d).1 := (hm.mono e6).upd (.inl rfl)
      refine (ev_var rfl : Ev _ _ _ _) _ (Ex.refl _) _ fun H8 e8 => k' p (la ++ [q]) H8 hp (eH7.trans e8) ?_ ?_
      · rw [← refs_app]
        exact e8 _ _ upd_same
      · exact RowsAt.mono e8 (each_app1 (R := fun a r => SqL K _ a (nv r)) (sq_of hq7) hm7.rows)
/-! number_in -/
def spNumberIn (K : PySem.W.Frag) : Sp := fun vs H Q _ => ∃ (a : Addr) (d : List Nat), vs = [.ref a] ∧ SqL K H a (nv d) ∧ d.length ≤ 60000 ∧ RetV (optV (numberIn d)) H Q
theorem scNumberIn : FnScope ["part", "number", "digit"] ["part"] (defScope sNumberIn) := ⟨rfl, rfl, rfl, by decide +kernel, rfl, by decide +kernel, by decide +kernel⟩
theorem ev_min2 {σ : L2.St} {H : Hp} {ta tb : TE} {i j : Int} (ha : Ev ta σ H (.int i)) (hb : Ev tb σ H (.int j)) : Ev (tCB (fun xs H Q => ∃ i j, xs = [V.int i, V.int j] ∧ Q (.int (if j < i then j else i)) H) (tCons ta (tCons tb tNil))) σ H (.int (if j < i then j else i)) := fun H1 e Q q =>
  ha H1 e _ fun H2 e2 => hb H2 (e.trans e2) _ fun H3 e3 => ⟨i, j, rfl, q H3 (e2.trans e3)⟩
theorem ok_numberIn {f : Addr} {fd : FuncData} (D : Dn K mg "number_in" sNumberIn ["part"] f fd) (T : TxtR K mg CW) (L : TxtL K mg) : FnOk P w K mg base CX0 1 f fd ["part"] (spNumberIn K) := by
  refine D.F.ok scNumberIn (fun vs H Q E h => ?_) (fun cdv A outer s H vs Q E hr h => ?_)
  · obtain ⟨a, r, rfl, _⟩ := h
    rfl
  · obtain ⟨a, d, rfl, hS, hl, k⟩ := h
    refine ⟨_, pss_cons (ps_if (pt_cmpR op_eq (pe_callB call_len_seq (by rfl) T.len PySem.boot_len (pa_cons (pv 0) pa_nil)) pe_int (nomark _)) (pss_one (ps_ret pe_non)) pss_nil)
      (pss_cons (ps_if (PW.pt (pw_and (pt_cmpR op_eq (pe_ix ix_list (pv 0) pe_int (fun _ _ => rfl)) (pe_ic L.D0) (nomark _)) (pw_and1 (pt_cmpR op_gt (pe_callB call_len_seq (by rfl) T.len PySem.boot_len (pa_cons (pv 0) pa_nil)) pe_int (nomark _))))) (pss_one (ps_ret pe_non)) pss_nil)
      (pss_cons (ps_set (i := 1) scNumberIn.nd rfl (Or.inl rfl) pe_int)
      (pss_cons (ps_for PassesOwn.never rfl (pi_list (pv 0)) (pg_name (i := 2) scNumberIn.nd rfl (Or.inl rfl))
        (pss_cons (ps_if (PW.pt (pw_or (pt_cmpR op_lt (pv 2) (pe_ic L.D0) (nomark _)) (pw_or1 (pt_cmpR op_gt (pv 2) (pe_ic L.D9) (nomark _))))) (pss_one (ps_ret pe_non)) pss_nil)
        (pss_one (ps_set (i := 1) scNumberIn.nd rfl (Or.inl rfl) (pe_callB (call_min2 rfl) (by rfl) L.min (by decide +kernel) (pa_cons (pe_op op_sub (pe_op op_add (pe_op op_mul (pv 1) pe_int) (pv 2)) (pe_ic L.D0)) (pa_cons (pe_ic L.TL) pa_nil)))))))
      (pss_one (ps_ret (pv 1)))))), ?_⟩
    have hlen : ∀ {σ : L2.St} {H1 : Hp}, σ[0]? = some (some (.ref a)) → Ex H H1 → Ev (tCB (rLenS K) (tCons (tVar 0) tNil)) σ H1 (.int (d.length : Int)) := fun h0 e => by
      have := ev_len (K := K) (ev_var h0) (ex_l e hS)
      rw [nv_length] at this
      exact this
    refine q_when (b := decide (V.int (d.length : Int) = .int 0)) (et_test (ev_op (hlen rfl (Ex.refl H)) ev_c (rv_eq rfl))) (fun hb H1 e1 => ?_) (fun hb H1 e1 => ?_)
    · have hd : d = [] := by
        simp at hb
        exact hb
      subst hd
      exact k H1 e1
    have hne : d ≠ [] := by
      rintro rfl
      simp at hb
    obtain ⟨c, r, rfl⟩ : ∃ c r, d = c :: r := by
      cases d with
      | nil => exact absurd rfl hne
      | cons c r => exact ⟨c, r, rfl⟩
    have k0 : RetV (optV (if c = 48 ∧ (c :: r).length > 1 then none else capFrom 0 (c :: r))) H Q := k
    refine q_when (b := decide (V.int (c : Int) = .int 48) && decide ((1 : Int) < ((c :: r).length : Int))) (et_and (et_test (ev_op (ev_ixN (i := 0) (ev_var rfl) ev_c (ex_l e1 hS) (nv_get rfl)) ev_c (rv_eq rfl))) fun _ => et_test (ev_op (hlen rfl e1) ev_c rv_I0)) (fun hb H2 e2 => ?_) (fun hb H2 e2 => ?_)
    · have hc : c = 48 ∧ (c :: r).length > 1 := by
        simp only [Bool.and_eq_true, decide_eq_true_eq, V.int.injEq] at hb
        omega
      rw [if_pos hc] at k0
      exact k0 H2 (e1.trans e2)
    have hc : ¬ (c = 48 ∧ (c :: r).length > 1) := by
      intro z
      rw [Bool.and_eq_false_iff, decide_eq_false_iff_not, decide_eq_false_iff_not, V.int.injEq] at hb
      omega
    rw [if_neg hc] at k0
    refine q_asg (v := .int ((0 : Nat) : Int)) ev_c fun H3 e3 => ?_
    have e03 := (e1.trans e2).trans e3
    generalize hds : c :: r = ds at *
    refine q_forLn (K := K) (a := a) (xs := nv ds) (ev_var rfl) (ex_l e03 hS) (fun i σ' H' => ∃ (n : Nat) (v2 : Option V), σ' = [some (.ref a), some (.int (n : Int)), v2] ∧ Ex H H' ∧ n ≤ 65536 ∧ capFrom 0 ds = capFrom n (ds.drop i))
      (fun H4 e4 => ⟨0, none, rfl, e03.trans e4, by decide, rfl⟩) (fun i σ' H' _ ⟨_, _, _, e, _⟩ => ex_l e hS) ?_ ?_
    · rintro i x σ' H' hx ⟨n, v2, rfl, eH, hn, hcap⟩
      obtain ⟨b, hb, rfl⟩ := int_item hx
      have hdj : ds.drop i = b :: ds.drop (i + 1) := by
        obtain ⟨h1, h2⟩ := List.getElem?_eq_some_iff.mp hb
        rw [List.drop_eq_getElem_cons h1, h2]
      rw [hdj] at hcap
      have hcap' : capFrom 0 ds = if b < 48 ∨ b > 57 then none else capFrom (min (n * 10 + b - 48) 65536) (ds.drop (i + 1)) := hcap
      refine q_when (b := decide ((b : Int) < 48) || decide ((57 : Int) < (b : Int))) (et_or (et_test (ev_op (ev_var rfl) ev_c rv_I0)) fun _ => et_test (ev_op (ev_var rfl) ev_c rv_I0)) (fun hb H5 e5 => ?_) (fun hb H5 e5 => ?_)
      · have hq : b < 48 ∨ b > 57 := by
          simp only [Bool.or_eq_true, decide_eq_true_eq] at hb
          omega
        rw [hcap', if_pos hq] at k0
        exact k0 H5 (eH.trans e5)
      · have hq : ¬ (b < 48 ∨ b > 57) := by
          simp only [Bool.or_eq_false_iff, decide_eq_false_iff_not] at hb
          omega
        rw [if_neg hq] at hcap'
        refine s_asg (v := .int ((min (n * 10 + b - 48) 65536 : Nat) : Int)) (ev_is (ev_min2 (ev_op (ev_op (ev_op (ev_var rfl) ev_c (rv_I (.inl ⟨by omega, by omega⟩))) (ev_var rfl) rv_I0) ev_c rv_I0) ev_c) (congrArg V.int ?_)) fun H6 e6 => ⟨_, _, rfl, (eH.trans e5).trans e6, by omega, hcap'⟩
        by_cases z : (65536 : Int) < (n : Int) * 10 + (b : Int) - 48
        · rw [if_pos z]
          omega
        · rw [if_neg z]
          omega
    · rintro σ' H' ⟨n, v2, rfl, eH, hn, hcap⟩
      rw [nv_length, List.drop_length] at hcap
      have hcap' : capFrom 0 ds = some n := hcap
      rw [hcap'] at k0
      exact (ev_var rfl : Ev _ _ _ _) H' (Ex.refl H') _ fun H7 e7 => k0 H7 (eH.trans e7)
/-! is_filled -/
theorem scIsFilled : FnScope ["part"] ["part"] (defScope sIsFilled) := ⟨rfl, rfl, rfl, by decide +kernel, rfl, by decide +kernel, by decide +kernel⟩
theorem ok_isFilled {f f1 : Addr} {fd fd1 : FuncData} (D : Dn K mg "is_filled" sIsFilled ["part"] f fd) (T : TxtR K mg CW) (D1 : Dn K mg "all_may_stand" sAllMay ["row"] f1 fd1) (G1 : FnOk P w K mg base CX0 3 f1 fd1 ["row"] (spRow K fun r => r.all Sy.isSign)) :
    FnOk P w K mg base CX0 4 f fd ["part"] (spRow K isFilled) := by
  refine D.F.ok scIsFilled (fun vs H Q E h => ?_) (fun cdv A outer s H vs Q E hr h => ?_)
  · obtain ⟨a, r, rfl, _⟩ := h
    rfl
  · obtain ⟨a, r, rfl, hS, hl, k⟩ := h
    have hr1 : Room 3 _ := hr.mono (by decide)
    refine ⟨_, pss_one (ps_ret (pe_and (pe_cmpR op_gt (pe_callB call_len_seq (by rfl) T.len PySem.boot_len (pa_cons (pv 0) pa_nil)) pe_int (nomark _)) (pe_one (pe_call G1 hr1 rfl D1.g D1.kp D1.b .nil pass0 (pa_cons (pv 0) pa_nil))))), ?_⟩
    have el : Ev (tCB (rLenS K) (tCons (tVar 0) tNil)) (start ["part"] [.ref a]) H (.int ((nv r).length : Int)) := ev_len (ev_var rfl) hS
    have q : Ev (tAndV (tOp (rI0 fun i j => .bl (decide (j < i))) (tCB (rLenS K) (tCons (tVar 0) tNil)) (tC (.int 0))) (tCall (spRow K fun r => r.all Sy.isSign) [] E0 (tCons (tVar 0) tNil))) (start ["part"] [.ref a]) H
        (.bl (decide ((0 : Int) < ((nv r).length : Int)) && r.all Sy.isSign)) :=
      ev_andV (ev_op el ev_c rv_I0) fun _ => call1 (ev_var rfl) fun H1 e1 Q h E => ⟨a, r, rfl, ex_l e1 hS, hl, h⟩
    refine q H (Ex.refl H) _ fun H1 e1 => ?_
    have e : (decide ((0 : Int) < ((nv r).length : Int)) && r.all Sy.isSign) = isFilled r := by
      unfold isFilled
      rw [nv_length]
      congr 1
      rw [decide_eq_decide]; omega
    rw [e]
    exact k H1 e1
end
end So
/-! lines.py: words of lines -/
namespace So
open PySem PySem.Spec PyProof.Rows L2 Evl
open PySem.W (EachIs)
/-- a word as an answer, or None -/
def RetW (K : PySem.W.Frag) (CW : Addr) (o : Option Sy.Word) (H : Hp) (Q : VK) : Prop := match o with
  | some wd => ∀ (p : Addr) (H2 : Hp), H p = none → Ex H H2 → WordAt K CW H2 p wd → Q (.ref p) H2
  | none => RetV .non H Q
/-- the class Word, ready to be made -/
structure WordC (P : Program) (w : World) (K : PySem.W.Frag) (mg : Str → Option Value) (base : Heap) (CW fW : Addr) (fdW : FuncData) : Prop where
  M : Mk K CW fW
  b : Binds K fdW ["self", "reading", "text", "left", "right", "cost"] []
  G : FnOk P w K mg base CX0 1 fW fdW ["self", "reading", "text", "left", "right", "cost"] (spWInit CW)
theorem mk_word {CW : Addr} {H1 : Hp} {x dx : Addr} {x1 x2 x3 x4 x5 : V} {Q : VK} {E : XK} (nx : H1 x = none) (nd : H1 dx = none)
    (k : ∀ H2 : Hp, Ex H1 H2 → H2 x = some (.ins CW dx [("reading", x1), ("text", x2), ("left", x3), ("right", x4), ("cost", x5)]) → Q (.ref x) H2) :
    spWInit CW [.ref x, x1, x2, x3, x4, x5] (upd (upd H1 dx (.own x)) x (.ins CW dx [])) (fun v H2 => v = .non ∧ Q (.ref x) H2) E :=
  ⟨x, dx, x1, x2, x3, x4, x5, rfl, upd_same, fun H2 h kp => ⟨rfl, k H2 (fun b o e => kp b o (by rw [upd_ne (ne_of_none e nx), upd_ne (ne_of_none e nd)]; exact e) (ne_of_none e nx)) h⟩⟩
/-- C(..) as an answer -/
theorem ret_make {D : Ends} {σ : L2.St} {H : Hp} {ta : TA} {vs : List V} {C : Addr} {sp : Sp} {E : XK} (h : EvA ta σ H vs)
    (k : ∀ H1, Ex H H1 → ∀ x dx, H1 x = none → H1 dx = none → dx ≠ x → sp (.ref x :: (vs ++ [])) (upd (upd H1 dx (.own x)) x (.ins C dx [])) (fun v H2 => v = .non ∧ D.rt (.ref x) H2) E) : tRet (tMake C sp [] E ta) D σ H :=
  h H (Ex.refl H) _ fun H1 e1 => k H1 e1
theorem asg_make {D : Ends} {σ : L2.St} {H : Hp} {ta : TA} {vs : List V} {C : Addr} {sp : Sp} {E : XK} {i : Nat} (h : EvA ta σ H vs)
    (k : ∀ H1, Ex H H1 → ∀ x dx, H1 x = none → H1 dx = none → dx ≠ x → sp (.ref x :: (vs ++ [])) (upd (upd H1 dx (.own x)) x (.ins C dx [])) (fun v H2 => v = .non ∧ D.nx (σ.set i (some (.ref x))) H2) E) : tAsg (tMake C sp [] E ta) (gName i) D σ H :=
  h H (Ex.refl H) _ fun H1 e1 => k H1 e1
/-- (w.x, ..) made of parts that stand -/
theorem wordAt_of {K : PySem.W.Frag} {CW : Addr} {H : Hp} {x dx ra ta : Addr} {wd : Sy.Word} (h : H x = some (.ins CW dx [("reading", .ref ra), ("text", .ref ta), ("left", .int (wd.left : Int)), ("right", .int (wd.right : Int)), ("cost", .int (wd.cost : Int))])) (hr : SqL K H ra (nv wd.reading)) (ht : SqL K H ta (nv wd.text)) : WordAt K CW H x wd :=
  ⟨dx, ra, ta, h, hr, ht⟩
theorem partsOf_len {k : Nat} : ∀ {r p : List Nat}, p ∈ partsOf k r → p.length ≤ r.length
  | [], p, h => by
    simp [partsOf] at h
    subst h
    exact Nat.le_refl _
  | c :: r, p, h => by
    unfold partsOf at h
    split at h
    · rcases List.mem_cons.mp h with rfl | h
      · exact Nat.zero_le _
      · exact Nat.le_trans (partsOf_len h) (Nat.le_succ _)
    · cases e : partsOf k r with
      | nil => exact absurd e (partsOf_ne k r)
      | cons q qs =>
        rw [e] at h
        rcases List.mem_cons.mp h with rfl | h
        · rw [List.length_cons, List.length_cons]
          have := partsOf_len (k := k) (r := r) (p := q) (by rw [e]; exact List.mem_cons_self)
          omega
        · exact Nat.le_trans (partsOf_len (k := k) (r := r) (by rw [e]; exact List.mem_cons_of_mem _ h)) (Nat.le_succ _)
theorem encoded_ge : ∀ t : List Nat, t.length ≤ (encoded t).length
  | [] => Nat.le_refl _
  | c :: t => by
    rw [encoded_cons, List.length_append, List.length_cons]
    have h1 := utf8N_pos c
    have h2 := encoded_ge t
    omega
theorem decoded_len {d t : List Nat} (hb : ∀ x ∈ d, x < 256) (h : decoded d = some t) : t.length ≤ d.length := by
  have e := (decoded_some d.length d t (Nat.le_refl _) hb h).2
  have h2 := encoded_ge t
  rw [← e] at h2
  exact h2
theorem last_neg {l : List Nat} {b : Nat} (h : l.getLast? = some b) : atI (nv l) (-1) = some (.int (b : Int)) := by
  have hl : l ≠ [] := by
    rintro rfl
    cases h
  have hpos : 1 ≤ l.length := by
    cases l with
    | nil => exact absurd rfl hl
    | cons _ _ => simp
  unfold atI ixN
  rw [if_neg (by decide), nv_length, if_pos (by omega)]
  show (nv l)[((-1 : Int) + (l.length : Int)).toNat]? = _
  have e : ((-1 : Int) + (l.length : Int)).toNat = l.length - 1 := by omega
  rw [e, List.getElem?_map, ← List.getLast?_eq_getElem?, h]
  rfl
theorem cut_init (l : List Nat) : cutV (nv l) none (some (-1)) = nv l.dropLast := by
  unfold cutV
  have e1 : HT.sIx (nv l).length 0 none = 0 := rfl
  have e2 : HT.sIx (nv l).length (nv l).length (some (-1)) = l.length - 1 := by
    have e : HT.sIx (nv l).length (nv l).length (some (-1)) = ((-1 : Int) + ((nv l).length : Int)).toNat := rfl
    rw [e, nv_length]
    omega
  rw [e1, e2, List.drop_zero, Nat.sub_zero, List.dropLast_eq_take, ← List.map_take]
section
variable {P : Program} {w : World} {K : PySem.W.Frag} {mg : Str → Option Value} {base : Heap} {CW : Addr}
def spWordIn (K : PySem.W.Frag) (CW : Addr) : Sp := fun vs H Q _ => ∃ (a : Addr) (l : List Nat), vs = [.ref a] ∧ SqL K H a (nv l) ∧ l ≠ [] ∧ (∀ x ∈ l, x < 256) ∧ l.length ≤ 60000 ∧ RetW K CW (wordIn l) H Q
theorem scWordIn : FnScope ["line", "row", "parts", "numbers", "part"] ["line"] (defScope sWordIn) := ⟨rfl, rfl, rfl, by decide +kernel, rfl, by decide +kernel, by decide +kernel⟩
/-- the three numbers of a line -/
def threeOf (x y c : List Nat) : Option (Nat × Nat × Nat) := match numberIn x, numberIn y, numberIn c with
  | some x, some y, some c => some (x, y, c)
  | _, _, _ => none
theorem inV3 (x y c : List Nat) : inV .non [optV (numberIn x), optV (numberIn y), optV (numberIn c)] = (threeOf x y c).isNone := by
  unfold threeOf
  cases numberIn x <;> cases numberIn y <;> cases numberIn c <;> rfl
theorem wordOfRow_five {row : List Nat} {r t x y c : List Nat} (h : partsOf 32 row = [r, t, x, y, c]) : wordOfRow row = if (isFilled r && isFilled t) = true then (threeOf x y c).map fun n => (⟨r, t, n.1, n.2.1, n.2.2⟩ : Sy.Word) else none := by
  unfold wordOfRow threeOf
  rw [h]
  show (if isFilled r = true ∧ isFilled t = true then _ else _) = _
  by_cases q : isFilled r = true ∧ isFilled t = true
  · rw [if_pos q, if_pos (by rw [q.1, q.2]; rfl)]
    cases numberIn x <;> cases numberIn y <;> cases numberIn c <;> rfl
  · rw [if_neg q, if_neg (by rw [Bool.and_eq_true]; exact q)]
theorem wordOfRow_not {row : List Nat} (h : (partsOf 32 row).length ≠ 5) : wordOfRow row = none := by
  unfold wordOfRow
  split
  · rename_i e
    rw [e] at h
    exact absurd rfl h
  · rfl
theorem ok_wordIn {f f1 f2 f3 f4 fW : Addr} {fd fd1 fd2 fd3 fd4 fdW : FuncData} (D : Dn K mg "word_in" sWordIn ["line"] f fd) (T : TxtR K mg CW) (L : TxtL K mg)
    (D1 : Dn K mg "decoded" sDecoded ["data"] f1 fd1) (G1 : FnOk P w K mg base CX0 3 f1 fd1 ["data"] (spDecoded K))
    (D2 : Dn K mg "parts_of" sPartsOf ["row"] f2 fd2) (G2 : FnOk P w K mg base CX0 1 f2 fd2 ["row"] (spPartsOf K))
    (D3 : Dn K mg "is_filled" sIsFilled ["part"] f3 fd3) (G3 : FnOk P w K mg base CX0 4 f3 fd3 ["part"] (spRow K isFilled))
    (D4 : Dn K mg "number_in" sNumberIn ["part"] f4 fd4) (G4 : FnOk P w K mg base CX0 1 f4 fd4 ["part"] (spNumberIn K))
    (W : WordC P w K mg base CW fW fdW) :
    FnOk P w K mg base CX0 5 f fd ["line"] (spWordIn K CW) := by
  refine D.F.ok scWordIn (fun vs H Q E h => ?_) (fun cdv A outer s H vs Q E hr h => ?_)
  · obtain ⟨a, r, rfl, _⟩ := h
    rfl
  · obtain ⟨a, l, rfl, hS, hne, hby, hl, k⟩ := h
    have r3 : Room 3 _ := hr.mono (by decide)
    have r1 : Room 1 _ := hr.mono (by decide)
    have r4 : Room 4 _ := hr.mono (by decide)
    have r2 : Room 2 _ := hr.mono (by decide)
    refine ⟨_, pss_cons (ps_if (pt_cmpR op_ne (pe_ix ix_list (pv 0) (pe_un un_neg pe_int) (fun _ _ => rfl)) (pe_ic L.LE) (nomark _)) (pss_one (ps_ret pe_non)) pss_nil)
      (pss_cons (ps_set (i := 1) scWordIn.nd rfl (Or.inl rfl) (pe_call G1 r3 rfl D1.g D1.kp D1.b .nil pass0 (pa_cons (pe_slice sl_list (pv 0) po_none (po_some (pe_un un_neg pe_int))) pa_nil)))
      (pss_cons (ps_if (pt_cmpR op_isN (pv 1) pe_non (nomark _)) (pss_one (ps_ret pe_non)) pss_nil)
      (pss_cons (ps_set (i := 2) scWordIn.nd rfl (Or.inl rfl) (pe_call G2 r1 rfl D2.g D2.kp D2.b .nil pass0 (pa_cons (pv 1) pa_nil)))
      (pss_cons (ps_if (pt_cmpR op_ne (pe_callB call_len_seq (by rfl) T.len PySem.boot_len (pa_cons (pv 2) pa_nil)) (pe_ic L.PA) (nomark _)) (pss_one (ps_ret pe_non)) pss_nil)
      (pss_cons (ps_if (PW.pt (pw_or (pt_not (pt_val (pe_call G3 r4 rfl D3.g D3.kp D3.b .nil pass0 (pa_cons (pe_ix ix_list (pv 2) pe_int (fun _ _ => rfl)) pa_nil)))) (pw_or1 (pt_not (pt_val (pe_call G3 r4 rfl D3.g D3.kp D3.b .nil pass0 (pa_cons (pe_ix ix_list (pv 2) pe_int (fun _ _ => rfl)) pa_nil))))))) (pss_one (ps_ret pe_non)) pss_nil)
      (pss_cons (ps_setLc (i := 3) (own := [("part", 4)]) (g := gName 4) (tt := tYes) rfl scWordIn.nd rfl rfl (sw_true rfl rfl rfl (by decide +kernel)) (pi_list (pe_slice sl_list (pv 2) (po_some pe_int) po_none)) (blkOk_by (N := ["line", "row", "parts", "numbers", "part"]) (sc := defScope sWordIn) (by decide +kernel))
        (fun _ _ _ _ _ => pg_name (i := 4) scWordIn.nd rfl (Or.inl rfl)) (fun _ _ _ _ _ => pts_nil) (fun _ _ _ _ _ => pe_call G4 r1 rfl D4.g D4.kp D4.b .nil pass0 (pa_cons (pv 4) pa_nil)))
      (pss_cons (ps_if (pt_cmpR op_in_seq pe_non (pv 3) (by rfl)) (pss_one (ps_ret pe_non)) pss_nil)
      (pss_one (ps_ret (pe_make W.M W.G r2 rfl T.gW W.b .nil pass0 (pa_cons (pe_ix ix_list (pv 2) pe_int (fun _ _ => rfl)) (pa_cons (pe_ix ix_list (pv 2) pe_int (fun _ _ => rfl)) (pa_cons (pe_ix ix_list (pv 3) pe_int (fun _ _ => rfl)) (pa_cons (pe_ix ix_list (pv 3) pe_int (fun _ _ => rfl)) (pa_cons (pe_ix ix_list (pv 3) pe_int (fun _ _ => rfl)) pa_nil))))))))))))))), ?_⟩
    obtain ⟨b, hb⟩ : ∃ b, l.getLast? = some b := by
      cases e : l.getLast? with
      | none => exact absurd (List.getLast?_eq_none_iff.mp e) hne
      | some b => exact ⟨b, rfl⟩
    refine q_when (b := !decide (V.int (b : Int) = .int 10)) (et_test (ev_op (ev_op (ev_var rfl) (ev_un (r := rU fun i => .int (-i)) ev_c ru_neg) (rv_ixL hS (last_neg hb))) ev_c (rv_ne rfl))) (fun hc H1 e1 => ?_) (fun hc H1 e1 => ?_)
    · have e : wordIn l = none := by
        unfold wordIn
        rw [hb, if_neg]
        simp at hc ⊢
        omega
      rw [e] at k
      exact k H1 e1
    have e10 : wordIn l = wordOfLine l.dropLast := by
      unfold wordIn
      rw [hb, if_pos]
      simp at hc ⊢
      omega
    rw [e10] at k
    -- row = decoded(line[:-1])
    have sl := el_sl (K := K) (te := tVar 0) (tl := tNoPart) (th := tPart (tUn (rU fun i => .int (-i)) (tC (.int 1)))) (σ := start ["line", "row", "parts", "numbers", "part"] [V.ref a]) (H := H1) (ev_var rfl) eo_none (eo_some (ev_un ev_c ru_neg)) (ex_l e1 hS)
    rw [cut_init] at sl
    have hbd : ∀ x ∈ l.dropLast, x < 256 := fun x hx => hby x (List.dropLast_subset l hx)
    have hld : l.dropLast.length ≤ l.length := by rw [List.length_dropLast]; omega
    refine sl H1 (Ex.refl H1) _ fun p H2 hp e2 h2 => ⟨p, l.dropLast, rfl, sq_of h2, hbd, by omega, ?_⟩
    cases hdec : decoded l.dropLast with
    | none =>
      intro H3 e3
      have e : wordOfLine l.dropLast = none := by unfold wordOfLine; rw [hdec]
      rw [e] at k
      refine q_when (b := decide (V.non = V.non)) (et_test (ev_op (ev_var rfl) ev_c rv_isN)) (fun _ H4 e4 => ?_) (fun hb _ _ => by simp at hb)
      exact k H4 (((e1.trans e2).trans e3).trans e4)
    | some row =>
      have e : wordOfLine l.dropLast = wordOfRow row := by unfold wordOfLine; rw [hdec]
      rw [e] at k
      have hrl := decoded_len hbd hdec
      intro q H3 hq e3 h3
      have e03 := (e1.trans e2).trans e3
      refine q_when (b := decide (V.ref q = V.non)) (et_test (ev_op (ev_var rfl) ev_c rv_isN)) (fun hb _ _ => by simp at hb) (fun _ H4 e4 => ?_)
      have e04 := e03.trans e4
      -- parts = parts_of(row)
      refine ⟨_, rfl, q, row, rfl, sq_of (e4 _ _ h3), by omega, ?_⟩
      intro p2 la H5 hp2 e5 h5 hrows
      have e05 := e04.trans e5
      have lal : la.length = (partsOf 32 row).length := hrows.length
      have hlen := ev_len (K := K) (σ := ((start ["line", "row", "parts", "numbers", "part"] [V.ref a]).set 1 (some (V.ref q))).set 2 (some (V.ref p2))) (H := H5) (ta := tVar 2) (ev_var rfl) (sq_of h5)
      refine q_when (b := !decide (V.int ((la.map V.ref).length : Int) = .int 5)) (et_test (ev_op hlen ev_c (rv_ne rfl))) (fun hb H6 e6 => ?_) (fun hb H6 e6 => ?_)
      · have e : wordOfRow row = none := wordOfRow_not (by
          rw [List.length_map] at hb
          simp at hb
          omega)
        rw [e] at k
        exact k H6 (e05.trans e6)
      have h5l : la.length = 5 := by
        rw [List.length_map] at hb
        simp at hb
        omega
      have hf : ∃ r t x y c, partsOf 32 row = [r, t, x, y, c] := by
        rw [lal] at h5l
        revert h5l
        generalize partsOf 32 row = qs0
        intro h5l
        rcases qs0 with _ | ⟨r, _ | ⟨t, _ | ⟨x, _ | ⟨y, _ | ⟨c, _ | ⟨z, qs⟩⟩⟩⟩⟩⟩
        all_goals first | exact ⟨_, _, _, _, _, rfl⟩ | (simp at h5l)
      obtain ⟨r, t, x, y, c, hf⟩ := hf
      have hlens : ∀ p ∈ [r, t, x, y, c], p.length ≤ row.length := fun p hp => partsOf_len (k := 32) (by rw [hf]; exact hp)
      rw [wordOfRow_five hf] at k
      rw [hf] at hrows
      obtain ⟨a0, a1, a2, a3, a4, rfl, s0, s1, s2, s3, s4⟩ : ∃ a0 a1 a2 a3 a4, la = [a0, a1, a2, a3, a4] ∧ SqL K H5 a0 (nv r) ∧ SqL K H5 a1 (nv t) ∧ SqL K H5 a2 (nv x) ∧ SqL K H5 a3 (nv y) ∧ SqL K H5 a4 (nv c) := by
        cases hrows with
        | cons q0 h => cases h with
          | cons q1 h => cases h with
            | cons q2 h => cases h with
              | cons q3 h => cases h with
                | cons q4 h => cases h with
                  | nil => exact ⟨_, _, _, _, _, rfl, q0, q1, q2, q3, q4⟩
      have lr := hlens r (by simp)
      have lt := hlens t (by simp)
      have lx := hlens x (by simp)
      have ly := hlens y (by simp)
      have lc := hlens c (by simp)
      have h6 := e6 _ _ h5
      have tst : ∀ {i : Nat} {aa : Addr} {rr : List Nat}, [V.ref a0, V.ref a1, V.ref a2, V.ref a3, V.ref a4][i]? = some (V.ref aa) → SqL K H5 aa (nv rr) → rr.length ≤ row.length →
          EvT (tNot (tB (tCall (spRow K isFilled) [] E0 (tCons (tOp (rIxL K) (tVar 2) (tC (.int (i : Int)))) tNil)))) (((start ["line", "row", "parts", "numbers", "part"] [V.ref a]).set 1 (some (V.ref q))).set 2 (some (V.ref p2))) H6 (!isFilled rr) := fun hi hs hlr =>
        et_not (et_B (call1 (ev_ixN (ev_var rfl) ev_c (sq_of h6) hi) fun H7 e7 Q' hq E => ⟨_, _, rfl, ex_l (e6.trans e7) hs, sz_ok (by omega), hq⟩))
      refine q_when (b := (!isFilled r) || (!isFilled t)) (et_or (tst (i := 0) rfl s0 lr) fun _ => tst (i := 1) rfl s1 lt) (fun hb H7 e7 => ?_) (fun hb H7 e7 => ?_)
      · rw [if_neg (by
          intro z
          rw [Bool.and_eq_true] at z
          rw [z.1, z.2] at hb
          cases hb)] at k
        exact k H7 ((e05.trans e6).trans e7)
      have hfil : (isFilled r && isFilled t) = true := by
        cases u1 : isFilled r
        · rw [u1] at hb; cases hb
        · cases u2 : isFilled t
          · rw [u1, u2] at hb; cases hb
          · rfl
      rw [if_pos hfil] at k
      have e07 := (e05.trans e6).trans e7
      have h7 := e7 _ _ h6
      -- numbers = [number_in(part) for part in parts[2:]]
      have sl2 := el_sl (K := K) (te := tVar 2) (tl := tPart (tC (.int 2))) (th := tNoPart) (σ := ((start ["line", "row", "parts", "numbers", "part"] [V.ref a]).set 1 (some (V.ref q))).set 2 (some (V.ref p2))) (H := H7) (ev_var rfl) (eo_some ev_c) eo_none (sq_of h7)
      have cut2 : cutV [V.ref a0, V.ref a1, V.ref a2, V.ref a3, V.ref a4] (some 2) none = ([(V.ref a2, x), (V.ref a3, y), (V.ref a4, c)] : List (V × List Nat)).map Prod.fst := rfl
      have sl2' : EvL (tSl (rSlL K) (tVar 2) (tPart (tC (.int 2))) tNoPart) (((start ["line", "row", "parts", "numbers", "part"] [V.ref a]).set 1 (some (V.ref q))).set 2 (some (V.ref p2))) H7 (([(V.ref a2, x), (V.ref a3, y), (V.ref a4, c)] : List (V × List Nat)).map Prod.fst) := by
        rw [← cut2]
        exact sl2
      have cmp := el_compZN (K := K) (j := 4) (vs := [4]) (t := tYes) (te := tCall (spNumberIn K) [] E0 (tCons (tVar 4) tNil)) (fun _ => true) (fun z : V × List Nat => optV (numberIn z.2)) sl2' (by show 3 ≤ sizeLine; decide) (fun x => rfl) (fun _ _ _ _ => et_yes)
        (fun z H8 e8 hz _ => by
          have e58 := (e6.trans e7).trans e8
          rcases List.mem_cons.mp hz with rfl | hz
          · exact call1 (ev_var rfl) fun H9 e9 Q' hq E => ⟨a2, x, rfl, ex_l (e58.trans e9) s2, by omega, hq⟩
          · rcases List.mem_cons.mp hz with rfl | hz
            · exact call1 (ev_var rfl) fun H9 e9 Q' hq E => ⟨a3, y, rfl, ex_l (e58.trans e9) s3, by omega, hq⟩
            · rw [List.mem_singleton.mp hz]
              exact call1 (ev_var rfl) fun H9 e9 Q' hq E => ⟨a4, c, rfl, ex_l (e58.trans e9) s4, by omega, hq⟩)
      rw [filter_true] at cmp
      refine q_asgL cmp fun p3 H8 hp3 e8 h8 => ?_
      have h8' : H8 p3 = some (.lst [optV (numberIn x), optV (numberIn y), optV (numberIn c)]) := h8
      have e08 := e07.trans e8
      have fl : ∀ o : Option Nat, flatV (optV o) = true := fun o => by cases o <;> rfl
      refine q_when (b := inV .non [optV (numberIn x), optV (numberIn y), optV (numberIn c)]) (et_test (ev_op ev_c (ev_var rfl) (rv_isL (sq_of h8') rfl (by simp [fl])))) (fun hb H9 e9 => ?_) (fun hb H9 e9 => ?_)
      · rw [inV3] at hb
        rw [Option.isNone_iff_eq_none.mp hb] at k
        exact k H9 (e08.trans e9)
      rw [inV3] at hb
      obtain ⟨n1, n2, n3, hx, hy, hc⟩ : ∃ n1 n2 n3, numberIn x = some n1 ∧ numberIn y = some n2 ∧ numberIn c = some n3 := by
        unfold threeOf at hb
        cases u1 : numberIn x with
        | none => rw [u1] at hb; cases hb
        | some n1 =>
          cases u2 : numberIn y with
          | none => rw [u1, u2] at hb; cases hb
          | some n2 =>
            cases u3 : numberIn c with
            | none => rw [u1, u2, u3] at hb; cases hb
            | some n3 => exact ⟨n1, n2, n3, rfl, rfl, rfl⟩
      have e3 : threeOf x y c = some (n1, n2, n3) := by
        unfold threeOf
        rw [hx, hy, hc]
      rw [e3] at k
      rw [hx, hy, hc] at h8'
      have h9 := e9 _ _ h8'
      have e09 := e08.trans e9
      have h9p := e9 _ _ (e8 _ _ h7)
      have args : EvA (tCons (tOp (rIxL K) (tVar 2) (tC (.int 0))) (tCons (tOp (rIxL K) (tVar 2) (tC (.int 1))) (tCons (tOp (rIxL K) (tVar 3) (tC (.int 0))) (tCons (tOp (rIxL K) (tVar 3) (tC (.int 1))) (tCons (tOp (rIxL K) (tVar 3) (tC (.int 2))) tNil)))))
          ((((start ["line", "row", "parts", "numbers", "part"] [V.ref a]).set 1 (some (V.ref q))).set 2 (some (V.ref p2))).set 3 (some (V.ref p3))) H9 [.ref a0, .ref a1, .int (n1 : Int), .int (n2 : Int), .int (n3 : Int)] :=
        ea_cons (ev_ixN (i := 0) (ev_var rfl) ev_c (sq_of h9p) rfl) (ea_cons (ev_ixN (i := 1) (ev_var rfl) ev_c (sq_of h9p) rfl) (ea_cons (ev_ixN (i := 0) (ev_var rfl) ev_c (sq_of h9) rfl) (ea_cons (ev_ixN (i := 1) (ev_var rfl) ev_c (sq_of h9) rfl) (ea_cons (ev_ixN (i := 2) (ev_var rfl) ev_c (sq_of h9) rfl) ea_nil))))
      refine ret_make args fun H10 e10' xw dx nx nd ne => ?_
      refine mk_word nx nd fun H11 e11 h11 => ?_
      have eall := (e09.trans e10').trans e11
      have e511 := ((((e6.trans e7).trans e8).trans e9).trans e10').trans e11
      exact k xw H11 (fresh_back (e09.trans e10') nx) eall (wordAt_of (wd := ⟨r, t, n1, n2, n3⟩) h11 (ex_l e511 s0) (ex_l e511 s1))
end
end So
/-! lines.py: faults, a lexicon's text -/
namespace So
open PySem PySem.Spec PyProof.Rows L2 Evl
open PySem.W (EachIs)
/-- words with their addresses -/
abbrev refsOf (ps : List (Addr × Sy.Word)) : List V := ps.map fun p => V.ref p.1
abbrev wordsOf (ps : List (Addr × Sy.Word)) : List Sy.Word := ps.map Prod.snd
def WordsAt (K : PySem.W.Frag) (CW : Addr) (H : Hp) (ps : List (Addr × Sy.Word)) : Prop := ∀ p ∈ ps, WordAt K CW H p.1 p.2
theorem WordsAt.mono {K : PySem.W.Frag} {CW : Addr} {H H' : Hp} {ps : List (Addr × Sy.Word)} (e : Ex H H') (h : WordsAt K CW H ps) : WordsAt K CW H' ps := fun p hp => (h p hp).mono e
/-- .. as a comprehension takes them -/
abbrev zsOf (ps : List (Addr × Sy.Word)) : List (V × Sy.Word) := ps.map fun p => (V.ref p.1, p.2)
theorem zsOf_fst (ps : List (Addr × Sy.Word)) : (zsOf ps).map Prod.fst = refsOf ps := by rw [List.map_map]; rfl
theorem zsOf_mem {ps : List (Addr × Sy.Word)} {z : V × Sy.Word} (h : z ∈ zsOf ps) : ∃ p, p ∈ ps ∧ z = (V.ref p.1, p.2) := by
  obtain ⟨p, h1, h2⟩ := List.mem_map.mp h
  exact ⟨p, h1, h2.symm⟩
section
variable {K : PySem.W.Frag} {σ : L2.St} {H : Hp} {ta tb te tl : TE} {t : TT} {x y z v : V} {D : Ends} {tu tz : TS}
/-- [e for c in s] over a text -/
theorem lc_str {s : Str} {g : TG} {tt : TT} {te : TE} {vs : List Nat} {σ : L2.St} {H1 : Hp} {D : Addr} {Qd : Hp → Prop} (Pv : Nat → Hp → Prop) (h0 : Pv 0 (upd H1 D (.lst [])))
    (hs : ∀ i c H, s.cps[i]? = some c → Pv i H → g (.str ⟨#[c]⟩) (wipe σ vs) H fun σ2 H2 => wipe σ2 vs = wipe σ vs ∧ tt σ2 H2 fun b H3 =>
      if b = true then te σ2 H3 fun y H4 => ∃ acc, H4 D = some (.lst acc) ∧ acc.length < sizeLine ∧ Pv (i + 1) (upd H4 D (.lst (acc ++ [y]))) else Pv (i + 1) H3) (hd : ∀ H, Pv s.cps.size H → Qd H) :
    ∃ W : Nat → Nat → Hp → Prop, (∃ m, W 0 m (upd H1 D (.lst []))) ∧ ∀ i m H, W i m H →
      ((Its s).stop i H ∧ Qd H) ∨ ((Its s).go i H ∧ ∃ Nx : Hp → Prop, (∀ H', Nx H' → ∃ m', m' < m ∧ W (i + 1) m' H') ∧ ∀ x H', (Its s).yld i H x H' → g x (wipe σ vs) H' fun σ2 H2 => wipe σ2 vs = wipe σ vs ∧ tt σ2 H2 fun b H3 =>
        if b = true then te σ2 H3 fun y H4 => ∃ acc, H4 D = some (.lst acc) ∧ acc.length < sizeLine ∧ Nx (upd H4 D (.lst (acc ++ [y]))) else Nx H3) := by
  refine ⟨fun i m H => i ≤ s.cps.size ∧ m = s.cps.size - i ∧ Pv i H, ⟨s.cps.size - 0, Nat.zero_le _, rfl, h0⟩, ?_⟩
  rintro i m H ⟨hi, rfl, p⟩
  rcases Nat.lt_or_eq_of_le hi with hlt | rfl
  · refine .inr ⟨hlt, Pv (i + 1), fun H' p' => ⟨s.cps.size - (i + 1), by omega, hlt, rfl, p'⟩, ?_⟩
    rintro x H' ⟨rfl, c, hc, rfl⟩
    exact hs i c _ hc p
  · exact .inl ⟨Nat.le_refl _, hd H p⟩
theorem el_compS {s : Str} {j : Nat} {vs : List Nat} (g : Nat → V) (h : Ev tl σ H (.str s)) (hz : s.cps.size ≤ sizeLine) (hw : ∀ x, wipe ((wipe σ vs).set j (some x)) vs = wipe σ vs)
    (he : ∀ (c : Nat) H1, Ex H H1 → Ev te ((wipe σ vs).set j (some (.str ⟨#[c]⟩))) H1 (g c)) :
    EvL (tLc (iStr tl) (gName j) tYes te vs) σ H (s.cps.toList.map g) := fun H0 e Q q => h H0 e _ fun H1 e1 => ⟨s, rfl, fun Dl hD => by
  refine lc_str (fun i H' => H1 Dl = none ∧ Ex H1 H' ∧ H' Dl = some (.lst ((s.cps.toList.take i).map g))) ⟨hD, Ex.new hD, upd_same⟩ (fun i c H' hc p => ⟨hw _, ?_⟩) fun H' p => ?_
  · obtain ⟨p1, p2, p3⟩ := p
    have hc' : s.cps.toList[i]? = some c := by rw [Array.getElem?_toList]; exact hc
    refine he c H1 (e.trans e1) H' p2 _ fun H4 e4 => ⟨(s.cps.toList.take i).map g, e4 _ _ p3, ?_, p1, Ex.mut (p2.trans e4) p1, ?_⟩
    · have h1 := (List.getElem?_eq_some_iff.mp hc').1
      rw [Array.length_toList] at h1
      rw [List.length_map, List.length_take, Array.length_toList]
      omega
    · rw [take_succ_of hc', List.map_append]
      exact upd_same
  · obtain ⟨p1, p2, p3⟩ := p
    have et : s.cps.toList.take s.cps.size = s.cps.toList := List.take_of_length_le (by rw [Array.length_toList]; exact Nat.le_refl _)
    rw [et] at p3
    exact q Dl H' (fresh_back e1 p1) (e1.trans p2) p3⟩
/-- xs + ys, both new -/
theorem el_cat {xs ys : List V} (ha : EvL ta σ H xs) (hb : EvL tb σ H ys) (hz : xs.length + ys.length ≤ sizeLine) : EvL (tOp rCat ta tb) σ H (xs ++ ys) := fun H1 e Q q =>
  ha H1 e _ fun p H2 _ e2 h2 => hb H2 (e.trans e2) _ fun p3 H3 hp3 e3 h3 => ⟨p, p3, xs, ys, rfl, rfl, e3 _ _ h2, h3, hz, fun p4 hp4 => q p4 _ (fresh_back (e2.trans e3) hp4) ((e2.trans e3).trans (Ex.new hp4)) upd_same⟩
/-- for x in (a, b, ..): the tuple is made on the way -/
theorem s_forNTn {xs : List V} {tl : TE} {j : Nat} (h : EvU tl σ H xs) (Pv : Addr → Nat → L2.St → Hp → Prop) (h0 : ∀ p H1, H p = none → Ex H H1 → H1 p = some (.tup xs) → Pv p 0 σ H1) (hl : ∀ p i σ' H', i ≤ xs.length → Pv p i σ' H' → SqT K H' p xs)
    (hs : ∀ p i x σ' H', xs[i]? = some x → Pv p i σ' H' → tu { D with nx := Pv p (i + 1), ct := Pv p (i + 1), bk := D.nx } (σ'.set j (some x)) H') (hd : ∀ p σ' H', Pv p xs.length σ' H' → D.nx σ' H') : tFor (iTup K tl) (gName j) tu D σ H :=
  h H (Ex.refl H) _ fun p H1 hp e h1 => ⟨p, rfl, ⟨xs, st_of h1⟩, for_tup (Pv p) (h0 p H1 hp e h1) (hl p) (hs p) (hd p)⟩
theorem q_forNTn {xs : List V} {tl : TE} {j : Nat} (h : EvU tl σ H xs) (Pv : Addr → Nat → L2.St → Hp → Prop) (h0 : ∀ p H1, H p = none → Ex H H1 → H1 p = some (.tup xs) → Pv p 0 σ H1) (hl : ∀ p i σ' H', i ≤ xs.length → Pv p i σ' H' → SqT K H' p xs)
    (hs : ∀ p i x σ' H', xs[i]? = some x → Pv p i σ' H' → tu { D with nx := Pv p (i + 1), ct := Pv p (i + 1), bk := tz D } (σ'.set j (some x)) H') (hd : ∀ p σ' H', Pv p xs.length σ' H' → tz D σ' H') : tSeq (tFor (iTup K tl) (gName j) tu) tz D σ H :=
  s_forNTn (D := { D with nx := tz D }) h Pv h0 hl hs hd
end
theorem shown_nat (n : Nat) : (Str.ofString (toString (n : Int))).cps.toList = digitsOf n := by
  rw [Str.ofString_eq_toList]
  show ((toString (n : Int)).toList.map Char.toNat) = _
  unfold digitsOf
  congr 1
  show (Nat.repr n).toList = _
  unfold Nat.repr
  exact String.toList_ofList
section
variable {P : Program} {w : World} {K : PySem.W.Frag} {mg : Str → Option Value} {base : Heap} {CW : Addr}
/-! fault_kind -/
/-- a word or None, as a value -/
def IsW (K : PySem.W.Frag) (CW : Addr) (H : Hp) (x : V) : Option Sy.Word → Prop
  | none => x = .non
  | some wd => ∃ p, x = .ref p ∧ WordAt K CW H p wd ∧ wd.reading.length ≤ sizeLine ∧ wd.text.length ≤ sizeLine
def spFaultKind (K : PySem.W.Frag) (CW : Addr) : Sp := fun vs H Q _ => ∃ (x : V) (ow : Option Sy.Word) (b : Addr) (ps : List (Addr × Sy.Word)), vs = [x, .ref b] ∧ IsW K CW H x ow ∧ SqL K H b (refsOf ps) ∧ WordsAt K CW H ps ∧ ps.length ≤ 10000 ∧ RetV (.int (faultKind ow (wordsOf ps) : Int)) H Q
theorem scFaultKind : FnScope ["word", "before", "other"] ["word", "before"] (defScope sFaultKind) := ⟨rfl, rfl, rfl, by decide +kernel, rfl, by decide +kernel, by decide +kernel⟩
theorem ok_faultKind {f f1 f2 : Addr} {fd fd1 fd2 : FuncData} (D : Dn K mg "fault_kind" sFaultKind ["word", "before"] f fd) (T : TxtR K mg CW) (L : TxtL K mg)
    (D1 : Dn K mg "is_word" sIsWord ["word"] f1 fd1) (G1 : FnOk P w K mg base CX0 5 f1 fd1 ["word"] (spIsWord K CW))
    (D2 : Dn K mg "is_same" sIsSame ["word", "other"] f2 fd2) (G2 : FnOk P w K mg base CX0 1 f2 fd2 ["word", "other"] (spTwo K CW Sy.Word.same)) :
    FnOk P w K mg base CX0 6 f fd ["word", "before"] (spFaultKind K CW) := by
  refine D.F.ok scFaultKind (fun vs H Q E h => ?_) (fun cdv A outer s H vs Q E hr h => ?_)
  · obtain ⟨x, ow, b, ps, rfl, _⟩ := h
    rfl
  · obtain ⟨x, ow, b, ps, rfl, hx, hS, hW, hl, k⟩ := h
    have r5 : Room 5 _ := hr.mono (by decide)
    have r1 : Room 1 _ := hr.mono (by decide)
    refine ⟨_, pss_cons (ps_if (pt_cmpR op_isN (pv 0) pe_non (nomark _)) (pss_one (ps_ret (pe_ic L.NL))) pss_nil)
      (pss_cons (ps_if (pt_not (pt_val (pe_call G1 r5 rfl D1.g D1.kp D1.b .nil pass0 (pa_cons (pv 0) pa_nil)))) (pss_one (ps_ret (pe_ic L.BY))) pss_nil)
      (pss_cons (ps_if (pt_val (pe_callB (cr_any rfl) (by rfl) L.any (by decide +kernel) (pa_cons (pe_lc (own := [("other", 2)]) (g := gName 2) (tt := tYes) rfl scFaultKind.nd (pi_list (pv 1)) (blkOk_by (N := ["word", "before", "other"]) (sc := defScope sFaultKind) (by decide +kernel))
          (fun _ _ _ _ _ => pg_name (i := 2) scFaultKind.nd rfl (Or.inl rfl)) (fun _ _ _ _ _ => pts_nil) (fun _ _ _ _ _ => pe_call G2 r1 rfl D2.g D2.kp D2.b .nil pass0 (pa_cons (pv 0) (pa_cons (pv 2) pa_nil)))) pa_nil))) (pss_one (ps_ret (pe_ic L.SA))) pss_nil)
      (pss_cons (ps_if (pt_cmpR op_ge (pe_callB call_len_seq (by rfl) T.len PySem.boot_len (pa_cons (pv 1) pa_nil)) (pe_ic L.MW) (nomark _)) (pss_one (ps_ret (pe_ic L.TM))) pss_nil)
      (pss_one (ps_ret (pe_ic L.NF)))))), ?_⟩
    cases ow with
    | none =>
      obtain rfl : x = .non := hx
      refine q_when (b := decide (V.non = V.non)) (et_test (ev_op (ev_var rfl) ev_c rv_isN)) (fun _ H1 e1 => ?_) (fun hb _ _ => by simp at hb)
      exact k H1 e1
    | some wd =>
      obtain ⟨p, rfl, hWd, l1, l2⟩ := hx
      refine q_when (b := decide (V.ref p = V.non)) (et_test (ev_op (ev_var rfl) ev_c rv_isN)) (fun hb _ _ => by simp at hb) (fun _ H1 e1 => ?_)
      have k0 : RetV (.int ((if wd.ok = false then 2 else if (wordsOf ps).any (fun q => wd.same q) = true then 3 else if 128 ≤ (wordsOf ps).length then 4 else 0 : Nat) : Int)) H Q := k
      refine q_when (b := !wd.ok) (et_not (et_B (call1 (ev_var rfl) fun H2 e2 Q' hq E => ⟨p, wd, rfl, hWd.mono (e1.trans e2), l1, l2, hq⟩))) (fun hb H2 e2 => ?_) (fun hb H2 e2 => ?_)
      · rw [if_pos (by simpa using hb)] at k0
        exact k0 H2 (e1.trans e2)
      rw [if_neg (by simpa using hb)] at k0
      have e12 := e1.trans e2
      have cmp := el_compZ (K := K) (σ := start ["word", "before", "other"] [V.ref p, V.ref b]) (H := H2) (a := b) (zs := zsOf ps) (j := 2) (vs := [2]) (tl := tVar 1) (t := tYes) (te := tCall (spTwo K CW Sy.Word.same) [] E0 (tCons (tVar 0) (tCons (tVar 2) tNil))) (fun _ => true) (fun z => .bl (wd.same z.2)) (ev_var rfl)
        (by rw [zsOf_fst]; exact ex_l e12 hS) (by rw [List.length_map]; exact sz_ok (by omega)) (fun x => rfl) (fun _ _ _ _ => et_yes) (fun z H3 e3 hz _ => by
          obtain ⟨q, hq, rfl⟩ := zsOf_mem hz
          exact call2 (ev_var rfl) (ev_var rfl) fun H4 e4 Q' hQ E => ⟨p, q.1, wd, q.2, rfl, hWd.mono ((e12.trans e3).trans e4), (hW q hq).mono ((e12.trans e3).trans e4), hQ⟩)
      rw [filter_true, List.map_map] at cmp
      have c2 := ev_any (K := K) (bs := ps.map fun q => wd.same q.2) (by rw [List.map_map]; exact cmp)
      rw [any_map] at c2
      have ea : (ps.any fun q => wd.same q.2) = (wordsOf ps).any fun q => wd.same q := by rw [List.any_map]; rfl
      rw [ea] at c2
      refine q_when (b := (wordsOf ps).any fun q => wd.same q) (et_B c2) (fun hb H3 e3 => ?_) (fun hb H3 e3 => ?_)
      · rw [if_pos hb] at k0
        exact k0 H3 (e12.trans e3)
      rw [if_neg (by rw [hb]; exact Bool.false_ne_true)] at k0
      have hlen := ev_len (K := K) (σ := start ["word", "before", "other"] [V.ref p, V.ref b]) (H := H3) (ta := tVar 1) (ev_var rfl) (ex_l (e12.trans e3) hS)
      rw [List.length_map] at k0 hlen
      refine q_when (b := decide ((128 : Int) ≤ (ps.length : Int))) (et_test (ev_op hlen ev_c rv_I0)) (fun hb H4 e4 => ?_) (fun hb H4 e4 => ?_)
      · rw [if_pos (by simp at hb; omega)] at k0
        exact k0 H4 ((e12.trans e3).trans e4)
      · rw [if_neg (by simp at hb; omega)] at k0
        exact k0 H4 ((e12.trans e3).trans e4)
/-! digits_of -/
def spDigitsOf : Sp := fun vs H Q _ => ∃ n : Nat, vs = [.int n] ∧ n < 2 ^ 64 ∧ RetL (nv (digitsOf n)) H Q
theorem scDigitsOf : FnScope ["number", "digit"] ["number"] (defScope sDigitsOf) := ⟨rfl, rfl, rfl, by decide +kernel, rfl, by decide +kernel, by decide +kernel⟩
theorem digitsOf_len {n : Nat} (h : n < 2 ^ 64) : (digitsOf n).length ≤ 21 := by
  have h2 : (toString (n : Int)).length ≤ 20 + 1 := int_text_length_le10 (a := (n : Int)) (k := 20) (by decide) (by
    rw [Int.natAbs_natCast]
    have : (2 : Nat) ^ 64 ≤ 10 ^ 20 := by decide
    omega)
  have e : (digitsOf n).length = (toString (n : Int)).length := by
    rw [← shown_nat, Str.ofString_eq_toList]
    show (List.map Char.toNat (toString (n : Int)).toList).length = _
    rw [List.length_map, String.length_toList]
  omega
theorem ok_digitsOf {f : Addr} {fd : FuncData} (D : Dn K mg "digits_of" sDigitsOf ["number"] f fd) (L : TxtL K mg) : FnOk P w K mg base CX0 1 f fd ["number"] spDigitsOf := by
  refine D.F.ok scDigitsOf (fun vs H Q E h => ?_) (fun cdv A outer s H vs Q E hr h => ?_)
  · obtain ⟨n, rfl, _⟩ := h
    rfl
  · obtain ⟨n, rfl, hn, k⟩ := h
    refine ⟨_, pss_one (ps_ret (pe_lc (own := [("digit", 1)]) (g := gName 1) (tt := tYes) rfl scDigitsOf.nd (pi_str (pe_callTy call_str_int (by rfl) L.str (by decide +kernel) (pa_cons (pv 0) pa_nil))) (blkOk_by (N := ["number", "digit"]) (sc := defScope sDigitsOf) (by decide +kernel))
      (fun _ _ _ _ _ => pg_name (i := 1) scDigitsOf.nd rfl (Or.inl rfl)) (fun _ _ _ _ _ => pts_nil) (fun _ _ _ _ _ => pe_callB call_ord (by rfl) L.ord (by decide +kernel) (pa_cons (pv 1) pa_nil)))), ?_⟩
    have hlog : (n : Int).natAbs.log2 < 1920 := by
      rw [Int.natAbs_natCast]
      by_cases h0 : n = 0
      · subst h0; decide
      · have := (Nat.log2_lt h0).mpr hn
        omega
    have hs : Ev (tCB (fun xs H Q => ∃ i : Int, xs = [V.int i] ∧ i.natAbs.log2 < 1920 ∧ Q (V.str (toString i)) H) (tCons (tVar 0) tNil)) (start ["number", "digit"] [V.int (n : Int)]) H (.str (Str.ofString (toString (n : Int)))) := fun H1 e Q q =>
      (ev_var rfl : Ev (tVar 0) _ _ _) H1 e _ fun H2 e2 => ⟨(n : Int), rfl, hlog, q H2 e2⟩
    have hlen : (Str.ofString (toString (n : Int))).cps.size ≤ sizeLine := by
      have h1 := digitsOf_len hn
      rw [← shown_nat, Array.length_toList] at h1
      exact sz_ok (by omega)
    have c := el_compS (te := tCB (fun xs H Q => ∃ x : Str, xs = [V.str x] ∧ x.length = 1 ∧ Q (V.int (x.cps.getD 0 0 : Nat)) H) (tCons (tVar 1) tNil)) (j := 1) (vs := [1]) (fun c => V.int (c : Int)) hs hlen (fun x => rfl) (fun c H1 e1 H2 e2 Q q => (ev_var rfl : Ev (tVar 1) _ _ _) H2 e2 _ fun H3 e3 => ⟨⟨#[c]⟩, rfl, rfl, q H3 e3⟩)
    rw [shown_nat] at c
    exact c H (Ex.refl H) _ fun p H1 hp e1 h1 => k p H1 hp e1 h1
/-! line_of -/
def spLineOf (K : PySem.W.Frag) (CW : Addr) : Sp := fun vs H Q _ => ∃ (p : Addr) (wd : Sy.Word), vs = [.ref p] ∧ WordAt K CW H p wd ∧ wd.ok = true ∧ RetL (nv (lineOf wd)) H Q
theorem scLineOf : FnScope ["word", "line", "number"] ["word"] (defScope sLineOf) := ⟨rfl, rfl, rfl, by decide +kernel, rfl, by decide +kernel, by decide +kernel⟩
structure OkW (wd : Sy.Word) : Prop where
  cr : ∀ c ∈ wd.reading, c < 0x110000
  ct : ∀ c ∈ wd.text, c < 0x110000
  lr : wd.reading.length ≤ 32
  lt : wd.text.length ≤ 32
  nl : wd.left ≤ 255
  nr : wd.right ≤ 255
  nc : wd.cost ≤ 65535
theorem okW {wd : Sy.Word} (h : wd.ok = true) : OkW wd := by
  rw [ok_eq] at h
  unfold isRowB at h
  simp only [Bool.and_eq_true, decide_eq_true_eq, List.all_eq_true] at h
  obtain ⟨⟨a1, a2, a3⟩, ⟨b1, b2, b3⟩, c1, c2, c3⟩ := h
  have key : ∀ c, Sy.isSign c = true → c < 0x110000 := fun c hc => by
    unfold Sy.isSign at hc
    rw [Bool.and_eq_true] at hc
    exact isChar_lt hc.1
  exact ⟨fun c hc => key c (a3 c hc), fun c hc => key c (b3 c hc), a2, b2, c1, c2, c3⟩
/-- the line up to its i-th number -/
def linePre (wd : Sy.Word) (i : Nat) : List Nat := encoded wd.reading ++ [32] ++ encoded wd.text ++ ([wd.left, wd.right, wd.cost].take i).flatMap fun n => 32 :: digitsOf n
theorem linePre_len {wd : Sy.Word} (h : OkW wd) (i : Nat) : (linePre wd i).length ≤ 1000 := by
  have h1 := encoded_le h.cr
  have h2 := encoded_le h.ct
  have h3 := h.lr
  have h4 := h.lt
  have d1 := digitsOf_len (n := wd.left) (by have := h.nl; omega)
  have d2 := digitsOf_len (n := wd.right) (by have := h.nr; omega)
  have d3 := digitsOf_len (n := wd.cost) (by have := h.nc; omega)
  have ht : (([wd.left, wd.right, wd.cost].take i).flatMap fun n => 32 :: digitsOf n).length ≤ 66 := by
    rcases i with _ | _ | _ | i
    · simp
    · simp
      omega
    · simp
      omega
    · have e : [wd.left, wd.right, wd.cost].take (i + 1 + 1 + 1) = [wd.left, wd.right, wd.cost] := List.take_of_length_le (by simp)
      rw [e]
      simp
      omega
  unfold linePre
  rw [List.length_append, List.length_append, List.length_append]
  simp only [List.length_singleton]
  omega
theorem line_full (wd : Sy.Word) : linePre wd 3 ++ [10] = lineOf wd := by
  unfold linePre lineOf
  simp
theorem ok_lineOf {f f1 f2 : Addr} {fd fd1 fd2 : FuncData} (D : Dn K mg "line_of" sLineOf ["word"] f fd) (T : TxtR K mg CW) (L : TxtL K mg)
    (D1 : Dn K mg "encoded" sEncoded ["row"] f1 fd1) (G1 : FnOk P w K mg base CX0 2 f1 fd1 ["row"] (spEncoded K))
    (D2 : Dn K mg "digits_of" sDigitsOf ["number"] f2 fd2) (G2 : FnOk P w K mg base CX0 1 f2 fd2 ["number"] spDigitsOf) :
    FnOk P w K mg base CX0 3 f fd ["word"] (spLineOf K CW) := by
  refine D.F.ok scLineOf (fun vs H Q E h => ?_) (fun cdv A outer s H vs Q E hr h => ?_)
  · obtain ⟨x, ow, rfl, _⟩ := h
    rfl
  · obtain ⟨p, wd, rfl, hW, hok, k⟩ := h
    have r2 : Room 2 _ := hr.mono (by decide)
    have r1 : Room 1 _ := hr.mono (by decide)
    have O := okW hok
    refine ⟨_, pss_cons (ps_set (i := 1) scLineOf.nd rfl (Or.inl rfl) (pe_op op_cat (pe_op op_cat (pe_call G1 r2 rfl D1.g D1.kp D1.b .nil pass0 (pa_cons (pe_fld (pv 0) rfl) pa_nil)) (pe_lst (pa_cons (pe_ic T.BL) pa_nil))) (pe_call G1 r2 rfl D1.g D1.kp D1.b .nil pass0 (pa_cons (pe_fld (pv 0) rfl) pa_nil))))
      (pss_cons (ps_for PassesOwn.never rfl (pi_tup (pe_tup (pa_cons (pe_fld (pv 0) rfl) (pa_cons (pe_fld (pv 0) rfl) (pa_cons (pe_fld (pv 0) rfl) pa_nil))))) (pg_name (i := 2) scLineOf.nd rfl (Or.inl rfl))
        (pss_cons (ps_expr (pe_bm PySem.F.plainAttrs_list PySem.F.slot_list_append PySem.F.type_list_append mt_append (pv 1) (pa_cons (pe_ic T.BL) pa_nil)))
        (pss_one (ps_expr (pe_bm PySem.F.plainAttrs_list PySem.F.slot_list_extend PySem.F.type_list_extend mt_extend (pv 1) (pa_cons (pe_call G2 r1 rfl D2.g D2.kp D2.b .nil pass0 (pa_cons (pv 2) pa_nil)) pa_nil))))))
      (pss_cons (ps_expr (pe_bm PySem.F.plainAttrs_list PySem.F.slot_list_append PySem.F.type_list_append mt_append (pv 1) (pa_cons (pe_ic L.LE) pa_nil)))
      (pss_one (ps_ret (pv 1))))), ?_⟩
    obtain ⟨dx, ra, ta, h1, hR, hT⟩ := id hW
    have lr := O.lr
    have lt := O.lt
    have enc1 := encoded_le O.cr
    have enc2 := encoded_le O.ct
    have c1 : EvL (tCall (spEncoded K) [] E0 (tCons (tFld K (tVar 0) "reading") tNil)) (start ["word", "line", "number"] [V.ref p]) H (nv (encoded wd.reading)) :=
      call1L (ev_fld (ev_var rfl) h1 T.cl T.nR (wF_reading _ _ _)) fun H2 e2 Q' hq E => ⟨ra, wd.reading, rfl, ex_l e2 hR, O.cr, by omega, hq⟩
    have c2 : EvL (tCall (spEncoded K) [] E0 (tCons (tFld K (tVar 0) "text") tNil)) (start ["word", "line", "number"] [V.ref p]) H (nv (encoded wd.text)) :=
      call1L (ev_fld (ev_var rfl) h1 T.cl T.nT (wF_text _ _ _)) fun H2 e2 Q' hq E => ⟨ta, wd.text, rfl, ex_l e2 hT, O.ct, by omega, hq⟩
    have c3 : EvL (tLst (tCons (tC (.int 32)) tNil)) (start ["word", "line", "number"] [V.ref p]) H (nv [32]) := el_lst (ea_cons ev_c ea_nil) (by decide)
    have cc := el_cat (el_cat c1 c3 (by rw [nv_length]; exact sz_ok (by simp; omega))) c2 (by rw [List.length_append, nv_length, nv_length, nv_length]; exact sz_ok (by simp; omega))
    rw [← nv_app, ← nv_app] at cc
    refine q_asgL cc fun l H1 hl e1 hl1 => ?_
    have tup := eu_tup (σ := (start ["word", "line", "number"] [V.ref p]).set 1 (some (.ref l))) (H := H1) (ea_cons (ev_fld (K := K) (f := "left") (ev_var (i := 0) rfl) (e1 _ _ h1) T.cl T.nL (wF_left _ _ _)) (ea_cons (ev_fld (K := K) (f := "right") (ev_var (i := 0) rfl) (e1 _ _ h1) T.cl T.nG (wF_right _ _ _)) (ea_cons (ev_fld (K := K) (f := "cost") (ev_var (i := 0) rfl) (e1 _ _ h1) T.cl T.nC (wF_cost _ _ _)) ea_nil))) (by show 3 ≤ 100000; decide)
    refine q_forNTn (K := K) tup (fun q i σ' H' => ∃ v2 : Option V, σ' = [some (.ref p), some (.ref l), v2] ∧ Ex H H' ∧ H' q = some (.tup [.int (wd.left : Int), .int (wd.right : Int), .int (wd.cost : Int)]) ∧ H' l = some (.lst (nv (linePre wd i))))
      (fun q H2 hq e2 h2 => ⟨none, rfl, e1.trans e2, h2, ?_⟩) (fun q i σ' H' _ ⟨_, _, _, e, _⟩ => st_of e) ?_ ?_
    · have e0 : linePre wd 0 = encoded wd.reading ++ [32] ++ encoded wd.text := by
        unfold linePre
        simp
      rw [e0]
      exact e2 _ _ hl1
    · rintro q i x σ' H' hx ⟨v2, rfl, eH, htup, hll⟩
      obtain ⟨n, hn, rfl, hnb⟩ : ∃ n : Nat, [wd.left, wd.right, wd.cost][i]? = some n ∧ x = .int (n : Int) ∧ n < 2 ^ 64 := by
        have b1 := O.nl
        have b2 := O.nr
        have b3 := O.nc
        rcases i with _ | _ | _ | i
        · exact ⟨wd.left, rfl, (Option.some.inj hx).symm, by omega⟩
        · exact ⟨wd.right, rfl, (Option.some.inj hx).symm, by omega⟩
        · exact ⟨wd.cost, rfl, (Option.some.inj hx).symm, by omega⟩
        · cases hx
      have ll := linePre_len O i
      have ld := digitsOf_len hnb
      refine q_appS (v := .int ((32 : Nat) : Int)) hll (ev_var rfl) ev_c (by rw [nv_length]; exact Nat.lt_of_lt_of_le (by omega : _ < 10000000) (by decide)) fun H3 e3 => ?_
      refine s_extL (ys := nv (digitsOf n)) upd_same (ev_var rfl) (call1L (ev_var rfl) fun H4 e4 Q' hq E => ⟨n, rfl, hnb, hq⟩) (by rw [List.length_append, nv_length, nv_length]; exact sz_ok (by simp; omega)) fun H4 e4 => ⟨_, rfl, ?_, ?_, ?_⟩
      · exact Ex.mut ((Ex.mut (eH.trans e3) hl).trans e4) hl
      · have nql : q ≠ l := ne_of htup hll (by intro z; cases z)
        rw [upd_ne nql]
        refine e4 _ _ ?_
        rw [upd_ne nql]
        exact e3 _ _ htup
      · have e5 : linePre wd (i + 1) = linePre wd i ++ [32] ++ digitsOf n := by
          unfold linePre
          rw [take_succ_of hn, List.flatMap_append]
          simp
        rw [e5, nv_app, nv_app]
        exact upd_same
    · rintro q σ' H' ⟨v2, rfl, eH, htup, hll⟩
      have ll := linePre_len O 3
      have hll' : H' l = some (.lst (nv (linePre wd 3))) := hll
      refine q_appS (v := .int ((10 : Nat) : Int)) hll' (ev_var rfl) ev_c (by rw [nv_length]; exact Nat.lt_of_lt_of_le (by omega : _ < 10000000) (by decide)) fun H3 e3 => ?_
      refine (ev_var rfl : Ev _ _ _ _) _ (Ex.refl _) _ fun H4 e4 => k l H4 hl ((Ex.mut (eH.trans e3) hl).trans e4) ?_
      rw [← line_full, nv_app]
      exact e4 _ _ upd_same
/-! text_of -/
def spTextOf (K : PySem.W.Frag) (CW : Addr) : Sp := fun vs H Q _ => ∃ (b : Addr) (ps : List (Addr × Sy.Word)), vs = [.ref b] ∧ SqL K H b (refsOf ps) ∧ WordsAt K CW H ps ∧ (∀ wd ∈ wordsOf ps, wd.ok = true) ∧ ps.length ≤ 1000 ∧ RetL (nv (textOf (wordsOf ps))) H Q
theorem scTextOf : FnScope ["words", "data", "word"] ["words"] (defScope sTextOf) := ⟨rfl, rfl, rfl, by decide +kernel, rfl, by decide +kernel, by decide +kernel⟩
theorem lineOf_len {wd : Sy.Word} (h : wd.ok = true) : (lineOf wd).length ≤ 1001 := by
  have := linePre_len (okW h) 3
  rw [← line_full, List.length_append]
  simp
  omega
theorem textOf_len : ∀ {L : List Sy.Word}, (∀ wd ∈ L, wd.ok = true) → (textOf L).length ≤ 1001 * L.length
  | [], _ => Nat.le_refl _
  | wd :: L, h => by
    show (lineOf wd ++ textOf L).length ≤ _
    have h1 := lineOf_len (h wd List.mem_cons_self)
    have h2 := textOf_len fun x hx => h x (List.mem_cons_of_mem _ hx)
    rw [List.length_append, List.length_cons]
    omega
theorem ok_textOf {f f1 : Addr} {fd fd1 : FuncData} (D : Dn K mg "text_of" sTextOf ["words"] f fd) (D1 : Dn K mg "line_of" sLineOf ["word"] f1 fd1) (G1 : FnOk P w K mg base CX0 3 f1 fd1 ["word"] (spLineOf K CW)) :
    FnOk P w K mg base CX0 4 f fd ["words"] (spTextOf K CW) := by
  refine D.F.ok scTextOf (fun vs H Q E h => ?_) (fun cdv A outer s H vs Q E hr h => ?_)
  · obtain ⟨x, ow, rfl, _⟩ := h
    rfl
  · obtain ⟨b, ps, rfl, hS, hW, hok, hlp, k⟩ := h
    have r3 : Room 3 _ := hr.mono (by decide)
    refine ⟨_, pss_cons (ps_set (i := 1) scTextOf.nd rfl (Or.inl rfl) (pe_lst pa_nil))
      (pss_cons (ps_for PassesOwn.never rfl (pi_list (pv 0)) (pg_name (i := 2) scTextOf.nd rfl (Or.inl rfl))
        (pss_one (ps_expr (pe_bm PySem.F.plainAttrs_list PySem.F.slot_list_extend PySem.F.type_list_extend mt_extend (pv 1) (pa_cons (pe_call G1 r3 rfl D1.g D1.kp D1.b .nil pass0 (pa_cons (pv 2) pa_nil)) pa_nil)))))
      (pss_one (ps_ret (pv 1)))), ?_⟩
    refine q_asgL ev_lst0 fun l H1 hl e1 h1 => ?_
    refine q_forLn (K := K) (a := b) (xs := refsOf ps) (ev_var rfl) (ex_l e1 hS) (fun i σ' H' => ∃ v2 : Option V, σ' = [some (.ref b), some (.ref l), v2] ∧ Ex H H' ∧ H' l = some (.lst (nv (textOf ((wordsOf ps).take i)))))
      (fun H2 e2 => ⟨none, rfl, e1.trans e2, e2 _ _ h1⟩) (fun i σ' H' _ ⟨_, _, e, _⟩ => ex_l e hS) ?_ ?_
    · rintro i x σ' H' hx ⟨v2, rfl, eH, hll⟩
      rw [List.getElem?_map] at hx
      obtain ⟨⟨q, wd⟩, hq, rfl⟩ : ∃ q, ps[i]? = some q ∧ x = .ref q.1 := by
        cases e : ps[i]? with
        | none => rw [e] at hx; cases hx
        | some q => rw [e] at hx; exact ⟨q, rfl, (Option.some.inj hx).symm⟩
      have hwi : (wordsOf ps)[i]? = some wd := by rw [List.getElem?_map, hq]; rfl
      have hwo : wd.ok = true := hok wd (List.mem_of_getElem? hwi)
      have b1 := textOf_len (L := (wordsOf ps).take i) fun x hx => hok x (List.mem_of_mem_take hx)
      rw [List.length_take, List.length_map] at b1
      have b2 := lineOf_len hwo
      refine s_extL (ys := nv (lineOf wd)) hll (ev_var rfl) (call1L (ev_var rfl) fun H2 e2 Q' hq' E => ⟨q, wd, rfl, (hW _ (List.mem_of_getElem? hq)).mono (eH.trans e2), hwo, hq'⟩) (by rw [nv_length, nv_length]; exact sz_ok (by omega)) fun H2 e2 => ⟨_, rfl, Ex.mut (eH.trans e2) hl, ?_⟩
      have e3 : textOf ((wordsOf ps).take (i + 1)) = textOf ((wordsOf ps).take i) ++ lineOf wd := by
        unfold textOf
        rw [take_succ_of hwi, List.flatMap_append]
        simp
      rw [e3, nv_app]
      exact upd_same
    · rintro σ' H' ⟨v2, rfl, eH, hll⟩
      have et : (wordsOf ps).take (refsOf ps).length = wordsOf ps := List.take_of_length_le (by simp)
      rw [et] at hll
      exact (ev_var rfl : Ev _ _ _ _) H' (Ex.refl H') _ fun H2 e2 => k l H2 hl (eH.trans e2) (e2 _ _ hll)
end
end So
/-! lexicon.py: the object, keep, begin, count, drop, write -/
namespace So
open PySem PySem.Spec PyProof.Rows L2 Evl
open PySem.W (EachIs)
abbrev sLexicon : Stmt := top 66
abbrev sLInit : Stmt := inClass sLexicon 0
abbrev sKeep : Stmt := inClass sLexicon 1
abbrev sBegin : Stmt := inClass sLexicon 2
abbrev sRead : Stmt := inClass sLexicon 3
abbrev sWrite : Stmt := inClass sLexicon 4
abbrev sCount : Stmt := inClass sLexicon 5
abbrev sPut : Stmt := inClass sLexicon 6
abbrev sDrop : Stmt := inClass sLexicon 7
structure TxtX (K : PySem.W.Frag) (mg : Str → Option Value) (CL : Addr) : Prop where
  MB : IntC mg "MOST_BYTES" 65536
  tl : IntC mg "TOO_LONG" (-1)
  fa : IntC mg "FAULTY" (-2)
  nw : IntC mg "NO_WORD" (-3)
  ns : IntC mg "NO_SUCH_NUMBER" (-4)
  fu : IntC mg "FULL" (-6)
  NF : IntC mg "NO_FAULT" 0
  MW : IntC mg "MOST_WORDS" 128
  len : mg "len" = none
  enum : mg "enumerate" = none
  sorted : mg "sorted" = none
  cl : Cls K CL
  nW : NoAttr K CL "words"
  nT : NoAttr K CL "written"
  gL : mg "Lexicon" = some (.ref CL)
/-- all but the object at p stands -/
def ExB (p : Addr) (H H' : Hp) : Prop := ∀ b o, H b = some o → b ≠ p → H' b = some o
theorem ExB.of {p : Addr} {H H' : Hp} (e : Ex H H') : ExB p H H' := fun b o h _ => e b o h
theorem ExB.pre {p : Addr} {H H1 H2 : Hp} (e : Ex H H1) (b : ExB p H1 H2) : ExB p H H2 := fun a o h n => b a o (e a o h) n
theorem ExB.post {p : Addr} {H H1 H2 : Hp} (b : ExB p H H1) (e : Ex H1 H2) : ExB p H H2 := fun a o h n => e a o (b a o h n)
theorem ExB.trans {p : Addr} {H H1 H2 : Hp} (a : ExB p H H1) (b : ExB p H1 H2) : ExB p H H2 := fun c o h n => b c o (a c o h n) n
/-- what is no instance of that form stays readable -/
theorem ExB.seq {K : PySem.W.Frag} {p C dx : Addr} {fs : List (Str × V)} {H H' : Hp} {a : Addr} {xs : List V} (b : ExB p H H') (hp : H p = some (.ins C dx fs)) (h : SqL K H a xs) : SqL K H' a xs := by
  rcases h with h | h
  · rcases h with h | ⟨o, h⟩
    · exact .inl (.inl (b _ _ h (ne_of h hp (by intro z; cases z))))
    · exact .inl (.inr ⟨o, b _ _ h (ne_of h hp (by intro z; cases z))⟩)
  · exact .inr h
theorem ExB.lst {p C dx : Addr} {fs : List (Str × V)} {H H' : Hp} {a : Addr} {xs : List V} (b : ExB p H H') (hp : H p = some (.ins C dx fs)) (h : H a = some (.lst xs)) : H' a = some (.lst xs) := b _ _ h (ne_of h hp (by intro z; cases z))
theorem key_ne {C C' dx dx' : Addr} {k k' : Str} {v v' : V} {r r' : List (Str × V)} (h : ¬ k = k') : HO.ins C dx ((k, v) :: r) ≠ HO.ins C' dx' ((k', v') :: r') := by
  intro z
  injection z with _ _ z
  have z1 := (List.cons.inj z).1
  exact h (congrArg Prod.fst z1)
theorem ExB.word {K : PySem.W.Frag} {CW p C dx : Addr} {k : Str} {v : V} {fs : List (Str × V)} {H H' : Hp} {a : Addr} {wd : Sy.Word} (b : ExB p H H') (hp : H p = some (.ins C dx ((k, v) :: fs))) (hk : ¬ ("reading" : Str) = k) (h : WordAt K CW H a wd) : WordAt K CW H' a wd := by
  obtain ⟨dx', ra, ta, h1, h2, h3⟩ := h
  exact ⟨dx', ra, ta, b _ _ h1 (ne_of h1 hp (key_ne hk)), b.seq hp h2, b.seq hp h3⟩
/-! ### the lexicon's object -/
def lF (wl : Addr) (wr : V) : List (Str × V) := [("words", .ref wl), ("written", wr)]
theorem lF_words (wl : Addr) (wr : V) : (lF wl wr).lookup ("words" : Str) = some (.ref wl) := lk_here
theorem lF_written (wl : Addr) (wr : V) : (lF wl wr).lookup ("written" : Str) = some wr := (lk_past (by decide +kernel)).trans lk_here
theorem lF_no {m : Str} (wl : Addr) (wr : V) (h1 : (m == ("words" : Str)) = false) (h2 : (m == ("written" : Str)) = false) : (lF wl wr).lookup m = none := (lk_past h1).trans ((lk_past h2).trans rfl)
def WrAt (H : Hp) (wr : V) (L : List Sy.Word) : Prop := wr = .non ∨ ∃ t, wr = .ref t ∧ H t = some (.lst (nv (textOf L)))
def LexAt (K : PySem.W.Frag) (CW CL : Addr) (H : Hp) (p : Addr) (L : List Sy.Word) (wl : Addr) (wr : V) : Prop := ∃ (dx : Addr) (ps : List (Addr × Sy.Word)), H p = some (.ins CL dx (lF wl wr)) ∧ H wl = some (.lst (refsOf ps)) ∧ WordsAt K CW H ps ∧ wordsOf ps = L ∧ WrAt H wr L
/-- the lists of the lexicon then: those of before, or new ones -/
structure Lx (H : Hp) (wl : Addr) (wr : V) (wl' : Addr) (wr' : V) : Prop where
  l : wl' = wl ∨ H wl' = none
  r : wr' = wr ∨ ∀ t, wr' = .ref t → H t = none
theorem Lx.same {H : Hp} {wl : Addr} {wr : V} : Lx H wl wr wl wr := ⟨.inl rfl, .inl rfl⟩
theorem Lx.fresh {H : Hp} {wl l : Addr} {wr : V} (h : H l = none) : Lx H wl wr l .non := ⟨.inr h, .inr fun _ z => nomatch z⟩
theorem LexAt.mono {K : PySem.W.Frag} {CW CL : Addr} {H H' : Hp} {p wl : Addr} {wr : V} {L : List Sy.Word} (e : Ex H H') (h : LexAt K CW CL H p L wl wr) : LexAt K CW CL H' p L wl wr := by
  obtain ⟨dx, ps, h1, h2, h3, h4, h5⟩ := h
  refine ⟨dx, ps, e _ _ h1, e _ _ h2, h3.mono e, h4, ?_⟩
  rcases h5 with h5 | ⟨t, h5, h6⟩
  · exact .inl h5
  · exact .inr ⟨t, h5, e _ _ h6⟩
/-- another object changes -/
theorem LexAt.but {K : PySem.W.Frag} {CW CL : Addr} {H H' : Hp} {p q C dx wl : Addr} {wr : V} {k : Str} {v : V} {fs : List (Str × V)} {L : List Sy.Word} (b : ExB q H H') (hq : H q = some (.ins C dx ((k, v) :: fs))) (k1 : ¬ ("reading" : Str) = k) (k2 : ¬ ("words" : Str) = k) (h : LexAt K CW CL H p L wl wr) : LexAt K CW CL H' p L wl wr := by
  obtain ⟨d, ps, h1, h2, h3, h4, h5⟩ := h
  refine ⟨d, ps, b _ _ h1 (ne_of h1 hq (key_ne k2)), b.lst hq h2, fun p hp => b.word hq k1 (h3 p hp), h4, ?_⟩
  rcases h5 with h5 | ⟨t, h5, h6⟩
  · exact .inl h5
  · exact .inr ⟨t, h5, b.lst hq h6⟩
theorem op_raw {r : R2} {ta tb : TE} {σ : L2.St} {H : Hp} {Q : VK} (h : ta σ H fun x H1 => tb σ H1 fun y H2 => r x y H2 Q) : tOp r ta tb σ H Q := h
theorem ret_raw {te : TE} {D : Ends} {σ : L2.St} {H : Hp} (h : te σ H D.rt) : tRet te D σ H := h
/-- o.f = a new list -/
theorem q_fldL {K : PySem.W.Frag} {ta te : TE} {tz : TS} {D : Ends} {σ : L2.St} {H : Hp} {f : Str} {xs : List V} (h : EvL te σ H xs)
    (k : ∀ l H1, H l = none → Ex H H1 → H1 l = some (.lst xs) → ta σ H1 fun x H2 => ∃ a C dx fs, x = .ref a ∧ H2 a = some (.ins C dx fs) ∧ Cls K C ∧ NoAttr K C f ∧ fs.length < 1000 ∧ tz D σ (upd H2 a (.ins C dx (putF f (.ref l) fs)))) : tSeq (sFld K ta te f) tz D σ H :=
  h H (Ex.refl H) _ fun l H1 hl e h1 => k l H1 hl e h1
theorem s_fldL {K : PySem.W.Frag} {ta te : TE} {D : Ends} {σ : L2.St} {H : Hp} {f : Str} {xs : List V} (h : EvL te σ H xs)
    (k : ∀ l H1, H l = none → Ex H H1 → H1 l = some (.lst xs) → ta σ H1 fun x H2 => ∃ a C dx fs, x = .ref a ∧ H2 a = some (.ins C dx fs) ∧ Cls K C ∧ NoAttr K C f ∧ fs.length < 1000 ∧ D.nx σ (upd H2 a (.ins C dx (putF f (.ref l) fs)))) : sFld K ta te f D σ H :=
  h H (Ex.refl H) _ fun l H1 hl e h1 => k l H1 hl e h1
abbrev iv (ns : List Int) : List V := ns.map V.int
/-- a method's end: the list that is answered, the lexicon behind it -/
def RetX (K : PySem.W.Frag) (CW CL : Addr) (p : Addr) (ns : List Int) (L : List Sy.Word) (wl : Addr) (wr : V) (H : Hp) (Q : VK) : Prop := ∀ (r : Addr) (H' : Hp) (wl' : Addr) (wr' : V), H r = none → H' r = some (.lst (iv ns)) → ExB p H H' → LexAt K CW CL H' p L wl' wr' → Lx H wl wr wl' wr' → Q (.ref r) H'
section
variable {P : Program} {w : World} {K : PySem.W.Frag} {mg : Str → Option Value} {base : Heap} {CW CL : Addr}
/-- a method of the class at C -/
structure Mn (K : PySem.W.Frag) (C : Addr) (x qual : Str) (st : Stmt) (ps : List Str) (f : Addr) (fd : FuncData) : Prop where
  F : Fun K x qual st f fd
  b : Binds K fd ps []
  m : Meth K C x f
/-! __init__, keep -/
def spLInit (CL : Addr) : Sp := fun vs H Q _ => ∃ (p dx : Addr), vs = [.ref p] ∧ H p = some (.ins CL dx []) ∧ ∀ (H' : Hp) (wl : Addr), H' p = some (.ins CL dx (lF wl .non)) → H' wl = some (.lst []) → ExB p H H' → Q .non H'
theorem scLInit : FnScope ["self"] ["self"] (defScope sLInit) := ⟨rfl, rfl, rfl, by decide +kernel, rfl, by decide +kernel, by decide +kernel⟩
theorem ok_lInit {f : Addr} {fd : FuncData} (F : Fun K "__init__" "Lexicon.__init__" sLInit f fd) (X : TxtX K mg CL) : FnOk P w K mg base CX0 1 f fd ["self"] (spLInit CL) := by
  refine F.ok scLInit (fun vs H Q E h => ?_) (fun cdv A outer s H vs Q E hr h => ?_)
  · obtain ⟨p, dx, rfl, _⟩ := h
    rfl
  · obtain ⟨p, dx, rfl, hp, k⟩ := h
    refine ⟨_, pss_cons (ps_fld (pv 0) (pe_lst pa_nil) rfl) (pss_one (ps_fld (pv 0) pe_non rfl)), ?_⟩
    refine q_fldL ev_lst0 fun l H1 hl e1 h1 => ?_
    have npl : l ≠ p := (ne_of_none hp hl).symm
    refine ⟨_, rfl, p, CL, dx, _, rfl, e1 _ _ hp, X.cl, X.nW, (by show 0 < 1000; decide), _, rfl, p, CL, dx, _, rfl, upd_same, X.cl, X.nT, (by show 1 < 1000; decide), ?_⟩
    have e2 : putF "written" .non (putF "words" (.ref l) []) = lF l .non := (put_past (by decide +kernel)).trans rfl
    refine k _ l (upd_same.trans (congrArg (fun x => some (HO.ins CL dx x)) e2)) ?_ fun b o e hb => ?_
    · rw [upd_ne npl, upd_ne npl]
      exact h1
    · rw [upd_ne hb, upd_ne hb]
      exact e1 _ _ e
def spKeep (CL : Addr) : Sp := fun vs H Q _ => ∃ (p dx wl wl2 : Addr) (wr : V), vs = [.ref p, .ref wl2] ∧ H p = some (.ins CL dx (lF wl wr)) ∧ ∀ H' : Hp, H' p = some (.ins CL dx (lF wl2 .non)) → ExB p H H' → Q .non H'
theorem scKeep : FnScope ["self", "words"] ["self", "words"] (defScope sKeep) := ⟨rfl, rfl, rfl, by decide +kernel, rfl, by decide +kernel, by decide +kernel⟩
theorem ok_keep {f : Addr} {fd : FuncData} (F : Fun K "keep" "Lexicon.keep" sKeep f fd) (X : TxtX K mg CL) : FnOk P w K mg base CX0 1 f fd ["self", "words"] (spKeep CL) := by
  refine F.ok scKeep (fun vs H Q E h => ?_) (fun cdv A outer s H vs Q E hr h => ?_)
  · obtain ⟨p, dx, _, _, _, rfl, _⟩ := h
    rfl
  · obtain ⟨p, dx, wl, wl2, wr, rfl, hp, k⟩ := h
    refine ⟨_, pss_cons (ps_fld (pv 0) (pv 1) rfl) (pss_one (ps_fld (pv 0) pe_non rfl)), ?_⟩
    refine ⟨_, rfl, _, rfl, p, CL, dx, _, rfl, hp, X.cl, X.nW, (by show 2 < 1000; decide), _, rfl, p, CL, dx, _, rfl, upd_same, X.cl, X.nT, ?_, ?_⟩
    · have e1 : putF "words" (.ref wl2) (lF wl wr) = lF wl2 wr := put_here
      rw [e1]
      show 2 < 1000
      decide
    · have e2 : putF "written" .non (putF "words" (.ref wl2) (lF wl wr)) = lF wl2 .non := by
        have e1 : putF "words" (.ref wl2) (lF wl wr) = lF wl2 wr := put_here
        rw [e1]
        exact (put_past (by decide +kernel)).trans (congrArg _ put_here)
      refine k _ (upd_same.trans (congrArg (fun x => some (HO.ins CL dx x)) e2)) fun b o e hb => ?_
      rw [upd_ne hb, upd_ne hb]
      exact e
/-- self.keep(a list) as a statement -/
theorem keep_call {σ : L2.St} {H : Hp} {D : Ends} {tz : TS} {te : TE} {xs : List V} {p dx wl : Addr} {wr : V} (h0 : σ[0]? = some (some (.ref p))) (hp : H p = some (.ins CL dx (lF wl wr))) (he : EvL te σ H xs)
    (k : ∀ (l : Addr) (H1 H' : Hp), H l = none → Ex H H1 → H1 l = some (.lst xs) → ExB p H1 H' → H' p = some (.ins CL dx (lF l .non)) → H' l = some (.lst xs) → tz D σ H') : tSeq (tDrop (tMeth CL "keep" (spKeep CL) [] E0 (tVar 0) (tCons te tNil))) tz D σ H := by
  refine ⟨_, h0, p, dx, _, rfl, hp, lF_no _ _ (by decide +kernel) (by decide +kernel), ?_⟩
  refine he H (Ex.refl H) _ fun l H1 hl e1 h1 => ⟨p, dx, wl, l, wr, rfl, e1 _ _ hp, fun H' hp' hb => ?_⟩
  exact k l H1 H' hl e1 h1 hb hp' (hb _ _ h1 (ne_of_none hp hl).symm)
/-! begin -/
def spBegin (K : PySem.W.Frag) (CW CL : Addr) : Sp := fun vs H Q _ => ∃ (p : Addr) (L : List Sy.Word) (wl : Addr) (wr : V), vs = [.ref p] ∧ LexAt K CW CL H p L wl wr ∧ RetX K CW CL p [0] [] wl wr H Q
theorem scBegin : FnScope ["self"] ["self"] (defScope sBegin) := ⟨rfl, rfl, rfl, by decide +kernel, rfl, by decide +kernel, by decide +kernel⟩
theorem ok_begin {f fk : Addr} {fd fdk : FuncData} (F : Fun K "begin" "Lexicon.begin" sBegin f fd) (X : TxtX K mg CL) (MK : Mn K CL "keep" "Lexicon.keep" sKeep ["self", "words"] fk fdk) (GK : FnOk P w K mg base CX0 1 fk fdk ["self", "words"] (spKeep CL)) :
    FnOk P w K mg base CX0 2 f fd ["self"] (spBegin K CW CL) := by
  refine F.ok scBegin (fun vs H Q E h => ?_) (fun cdv A outer s H vs Q E hr h => ?_)
  · obtain ⟨p, L, _, _, rfl, _⟩ := h
    rfl
  · obtain ⟨p, L, wl, wr, rfl, hL, k⟩ := h
    have r1 : Room 1 _ := hr.mono (by decide)
    obtain ⟨dx, ps, h1, h2, h3, h4, h5⟩ := hL
    refine ⟨_, pss_cons (ps_expr (pe_meth (pv 0) X.cl MK.m GK r1 MK.b .nil pass0 (pa_cons (pe_lst pa_nil) pa_nil))) (pss_one (ps_ret (pe_lst (pa_cons pe_int pa_nil)))), ?_⟩
    refine keep_call rfl h1 ev_lst0 fun l H1 H' hl e1 hl1 hb hp' hl' => ?_
    refine el_lst (ea_cons ev_c ea_nil) (by decide) H' (Ex.refl H') _ fun r H2 hr2 e2 hr2' => ?_
    have hr0 : H r = none := by
      cases q : H r with
      | none => rfl
      | some o =>
        by_cases z : r = p
        · subst z
          rw [hp'] at hr2
          cases hr2
        · rw [hb _ _ (e1 _ _ q) z] at hr2
          cases hr2
    exact k r H2 l .non hr0 hr2' ((ExB.pre e1 hb).post e2) ⟨dx, [], e2 _ _ hp', e2 _ _ hl', (fun _ z => by cases z), rfl, .inl rfl⟩ (Lx.fresh hl)
/-! count -/
def spCount (K : PySem.W.Frag) (CW CL : Addr) : Sp := fun vs H Q _ => ∃ (p : Addr) (L : List Sy.Word) (wl : Addr) (wr : V), vs = [.ref p] ∧ LexAt K CW CL H p L wl wr ∧ RetX K CW CL p [(L.length : Int)] L wl wr H Q
theorem scCount : FnScope ["self"] ["self"] (defScope sCount) := ⟨rfl, rfl, rfl, by decide +kernel, rfl, by decide +kernel, by decide +kernel⟩
theorem ok_count {f : Addr} {fd : FuncData} (F : Fun K "count" "Lexicon.count" sCount f fd) (X : TxtX K mg CL) : FnOk P w K mg base CX0 1 f fd ["self"] (spCount K CW CL) := by
  refine F.ok scCount (fun vs H Q E h => ?_) (fun cdv A outer s H vs Q E hr h => ?_)
  · obtain ⟨p, L, _, _, rfl, _⟩ := h
    rfl
  · obtain ⟨p, L, wl, wr, rfl, hL, k⟩ := h
    obtain ⟨dx, ps, h1, h2, h3, h4, h5⟩ := id hL
    refine ⟨_, pss_one (ps_ret (pe_lst (pa_cons (pe_callB call_len_seq (by rfl) X.len PySem.boot_len (pa_cons (pe_fld (pv 0) rfl) pa_nil)) pa_nil))), ?_⟩
    have hlen := ev_len (K := K) (H := H) (ev_fld (K := K) (σ := start ["self"] [V.ref p]) (f := "words") (ev_var (i := 0) rfl) h1 X.cl X.nW (lF_words _ _)) (sq_of h2)
    have e : (refsOf ps).length = L.length := by rw [← h4, List.length_map, List.length_map]
    rw [e] at hlen
    exact el_lst (ea_cons hlen ea_nil) (by show 1 ≤ 100000; decide) H (Ex.refl H) _ fun r H2 hr2 e2 hr2' => k r H2 wl wr hr2 hr2' (ExB.of e2) (hL.mono e2) Lx.same
/-! drop -/
def spDrop (K : PySem.W.Frag) (CW CL : Addr) : Sp := fun vs H Q _ => ∃ (p : Addr) (L : List Sy.Word) (wl : Addr) (wr : V) (i : Nat), vs = [.ref p, .int (i : Int)] ∧ LexAt K CW CL H p L wl wr ∧ L.length ≤ 1000 ∧
  RetX K CW CL p [if L.length ≤ i then -4 else 0] (if L.length ≤ i then L else L.eraseIdx i) wl wr H Q
theorem scDrop : FnScope ["self", "number"] ["self", "number"] (defScope sDrop) := ⟨rfl, rfl, rfl, by decide +kernel, rfl, by decide +kernel, by decide +kernel⟩
theorem fresh_keep {p r : Addr} {H H1 H' : Hp} {o : HO} (e1 : Ex H H1) (hb : ExB p H1 H') (hp' : H' p = some o) (hr : H' r = none) : H r = none := by
  cases q : H r with
  | none => rfl
  | some o =>
    by_cases z : r = p
    · subst z
      rw [hp'] at hr
      cases hr
    · rw [hb _ _ (e1 _ _ q) z] at hr
      cases hr
theorem ok_drop {f fk : Addr} {fd fdk : FuncData} (F : Fun K "drop" "Lexicon.drop" sDrop f fd) (X : TxtX K mg CL) (MK : Mn K CL "keep" "Lexicon.keep" sKeep ["self", "words"] fk fdk) (GK : FnOk P w K mg base CX0 1 fk fdk ["self", "words"] (spKeep CL)) :
    FnOk P w K mg base CX0 2 f fd ["self", "number"] (spDrop K CW CL) := by
  refine F.ok scDrop (fun vs H Q E h => ?_) (fun cdv A outer s H vs Q E hr h => ?_)
  · obtain ⟨p, L, _, _, i, rfl, _⟩ := h
    rfl
  · obtain ⟨p, L, wl, wr, i, rfl, hL, hle, k⟩ := h
    have r1 : Room 1 _ := hr.mono (by decide)
    obtain ⟨dx, ps, h1, h2, h3, h4, h5⟩ := id hL
    refine ⟨_, pss_cons (ps_if (pt_cmpR op_ge (pv 1) (pe_callB call_len_seq (by rfl) X.len PySem.boot_len (pa_cons (pe_fld (pv 0) rfl) pa_nil)) (nomark _)) (pss_one (ps_ret (pe_lst (pa_cons (pe_ic X.ns) pa_nil)))) pss_nil)
      (pss_cons (ps_expr (pe_meth (pv 0) X.cl MK.m GK r1 MK.b .nil pass0 (pa_cons (pe_op op_cat (pe_slice sl_list (pe_fld (pv 0) rfl) po_none (po_some (pv 1))) (pe_slice sl_list (pe_fld (pv 0) rfl) (po_some (pe_op op_add (pv 1) pe_int)) po_none)) pa_nil)))
      (pss_one (ps_ret (pe_lst (pa_cons pe_int pa_nil))))), ?_⟩
    have el : (refsOf ps).length = L.length := by rw [← h4, List.length_map, List.length_map]
    have fw : ∀ {H1 : Hp}, Ex H H1 → Ev (tFld K (tVar 0) "words") (start ["self", "number"] [V.ref p, V.int (i : Int)]) H1 (.ref wl) := fun e => ev_fld (ev_var rfl) (e _ _ h1) X.cl X.nW (lF_words _ _)
    have hlen := ev_len (K := K) (H := H) (fw (Ex.refl H)) (sq_of h2)
    rw [el] at hlen
    refine q_when (b := decide ((L.length : Int) ≤ (i : Int))) (et_test (ev_op (ev_var rfl) hlen rv_I0)) (fun hb H1 e1 => ?_) (fun hb H1 e1 => ?_)
    · have hi : L.length ≤ i := by simp at hb; omega
      rw [if_pos hi, if_pos hi] at k
      exact el_lst (ea_cons ev_c ea_nil) (by decide) H1 (Ex.refl H1) _ fun r H2 hr2 e2 hr2' => k r H2 wl wr (fresh_back e1 hr2) hr2' (ExB.of (e1.trans e2)) (hL.mono (e1.trans e2)) Lx.same
    · have hi : ¬ L.length ≤ i := by simp at hb; omega
      rw [if_neg hi, if_neg hi] at k
      have s1 := el_sl (K := K) (H := H1) (fw e1) eo_none (eo_some (te := tVar 1) (i := (i : Int)) (ev_var rfl)) (sq_of (e1 _ _ h2))
      have s2 := el_sl (K := K) (H := H1) (fw e1) (eo_some (te := tOp (rI0 fun i j => .int (i + j)) (tVar 1) (tC (.int 1))) (i := (i : Int) + 1) (ev_op (ev_var rfl) ev_c rv_I0)) eo_none (sq_of (e1 _ _ h2))
      rw [cut_take (by omega)] at s1
      have e3 : cutV (refsOf ps) (some ((i : Int) + 1)) none = (refsOf ps).drop (i + 1) := by
        have := cut_drop (xs := refsOf ps) (lo := i + 1) (by omega)
        have e : ((i + 1 : Nat) : Int) = (i : Int) + 1 := by omega
        rw [e] at this
        exact this
      rw [e3] at s2
      have cc := el_cat s1 s2 (by rw [List.length_take, List.length_drop, el]; exact sz_ok (by omega))
      have ec : (refsOf ps).take i ++ (refsOf ps).drop (i + 1) = refsOf (ps.eraseIdx i) := by
        rw [← List.map_take, ← List.map_drop, ← List.map_append, List.eraseIdx_eq_take_drop_succ]
      rw [ec] at cc
      refine keep_call rfl (e1 _ _ h1) cc fun l H2 H' hl e2 hl1 hb hp' hl' => ?_
      have e12 := e1.trans e2
      refine el_lst (ea_cons ev_c ea_nil) (by decide) H' (Ex.refl H') _ fun r H3 hr3 e3 hr3' => ?_
      refine k r H3 l .non (fresh_keep e12 hb hp' hr3) hr3' ((ExB.pre e12 hb).post e3) ⟨dx, ps.eraseIdx i, e3 _ _ hp', e3 _ _ hl', fun q hq => ?_, ?_, .inl rfl⟩ (Lx.fresh (fresh_back e1 hl))
      · exact (ExB.word ((ExB.pre e12 hb).post e3) h1 (by decide +kernel) (h3 q ((List.eraseIdx_sublist ..).subset hq)))
      · rw [← h4]
        show (ps.eraseIdx i).map Prod.snd = (ps.map Prod.snd).eraseIdx i
        rw [List.eraseIdx_eq_take_drop_succ, List.eraseIdx_eq_take_drop_succ, List.map_append, List.map_take, List.map_drop]
/-! write -/
def spWrite (K : PySem.W.Frag) (CW CL : Addr) : Sp := fun vs H Q _ => ∃ (p : Addr) (L : List Sy.Word) (wl : Addr) (wr : V), vs = [.ref p] ∧ LexAt K CW CL H p L wl wr ∧ (∀ wd ∈ L, wd.ok = true) ∧ L.length ≤ 1000 ∧ RetX K CW CL p (((textOf L).length : Int) :: (textOf L).map fun (n : Nat) => (n : Int)) L wl wr H Q
theorem scWrite : FnScope ["self"] ["self"] (defScope sWrite) := ⟨rfl, rfl, rfl, by decide +kernel, rfl, by decide +kernel, by decide +kernel⟩
theorem ok_write {f f1 : Addr} {fd fd1 : FuncData} (F : Fun K "write" "Lexicon.write" sWrite f fd) (X : TxtX K mg CL) (D1 : Dn K mg "text_of" sTextOf ["words"] f1 fd1) (G1 : FnOk P w K mg base CX0 4 f1 fd1 ["words"] (spTextOf K CW)) :
    FnOk P w K mg base CX0 5 f fd ["self"] (spWrite K CW CL) := by
  refine F.ok scWrite (fun vs H Q E h => ?_) (fun cdv A outer s H vs Q E hr h => ?_)
  · obtain ⟨p, L, _, _, rfl, _⟩ := h
    rfl
  · obtain ⟨p, L, wl, wr, rfl, hL, hok, hle, k⟩ := h
    have r4 : Room 4 _ := hr.mono (by decide)
    obtain ⟨dx, ps, h1, h2, h3, h4, h5⟩ := id hL
    refine ⟨_, pss_cons (ps_if (pt_cmpR op_isN (pe_fld (pv 0) rfl) pe_non (nomark _)) (pss_one (ps_fld (pv 0) (pe_call G1 r4 rfl D1.g D1.kp D1.b .nil pass0 (pa_cons (pe_fld (pv 0) rfl) pa_nil)) rfl)) pss_nil)
      (pss_one (ps_ret (pe_op op_cat (pe_lst (pa_cons (pe_callB call_len_seq (by rfl) X.len PySem.boot_len (pa_cons (pe_fld (pv 0) rfl) pa_nil)) pa_nil)) (pe_fld (pv 0) rfl)))), ?_⟩
    have tl := textOf_len hok
    -- what follows once the text stands
    have fin : ∀ (t : Addr) (H' : Hp), ExB p H H' → H' p = some (.ins CL dx (lF wl (.ref t))) → H' t = some (.lst (nv (textOf L))) → LexAt K CW CL H' p L wl (.ref t) → Lx H wl wr wl (.ref t) → tRet (tOp rCat (tLst (tCons (tCB (rLenS K) (tCons (tFld K (tVar 0) "written") tNil)) tNil)) (tFld K (tVar 0) "written")) { nx := fun x H' => Q V.non H', rt := Q, bk := fun _ _ => False, ct := fun _ _ => False } (start ["self"] [V.ref p]) H' := by
      intro t H' hb hp' ht hL' hlx
      have ft : ∀ {H1 : Hp}, Ex H' H1 → Ev (tFld K (tVar 0) "written") (start ["self"] [V.ref p]) H1 (.ref t) := fun e => ev_fld (ev_var rfl) (e _ _ hp') X.cl X.nT (lF_written _ _)
      have hlen := ev_len (K := K) (H := H') (ft (Ex.refl H')) (sq_of ht)
      rw [nv_length] at hlen
      have l1 := el_lst (ea_cons hlen ea_nil) (by show 1 ≤ 100000; decide)
      refine ret_raw (op_raw (l1 H' (Ex.refl H') _ fun l H1 hl e1 hl1 => ?_))
      refine ft e1 H1 (Ex.refl H1) _ fun H2 e2 => ⟨l, t, _, _, rfl, rfl, e2 _ _ hl1, e2 _ _ (e1 _ _ ht), ?_, fun r hr => ?_⟩
      · rw [nv_length]
        exact sz_ok (by simp; omega)
      · have e12 := e1.trans e2
        have hr' : H' r = none := fresh_back e12 hr
        have e3 := e12.trans (Ex.new (o := .lst ([V.int ((textOf L).length : Int)] ++ nv (textOf L))) hr)
        refine k r _ wl (.ref t) (fresh_keep (Ex.refl H) hb hp' hr') ?_ (hb.post e3) (hL'.mono e3) hlx
        rw [upd_same]
        show some (HO.lst ([V.int ((textOf L).length : Int)] ++ nv (textOf L))) = _
        unfold iv
        rw [List.map_cons, List.map_map]
        rfl
    have fwr : Ev (tFld K (tVar 0) "written") (start ["self"] [V.ref p]) H wr := ev_fld (ev_var rfl) h1 X.cl X.nT (lF_written _ _)
    rcases h5 with h5 | ⟨t, h5, h6⟩
    · subst h5
      refine q_when (b := decide (V.non = V.non)) (et_test (ev_op fwr ev_c rv_isN)) (fun _ H1 e1 => ?_) (fun hb _ _ => by simp at hb)
      have c1 : EvL (tCall (spTextOf K CW) [] E0 (tCons (tFld K (tVar 0) "words") tNil)) (start ["self"] [V.ref p]) H1 (nv (textOf L)) := by
        refine call1L (ev_fld (ev_var rfl) (e1 _ _ h1) X.cl X.nW (lF_words _ _)) fun H2 e2 Q' hq E => ⟨wl, ps, rfl, sq_of (e2 _ _ (e1 _ _ h2)), h3.mono (e1.trans e2), by rw [h4]; exact hok, ?_, by rw [h4]; exact hq⟩
        rw [← h4, List.length_map] at hle
        exact hle
      refine s_fldL c1 fun t H2 ht e2 h2t => ?_
      have e12 := e1.trans e2
      refine ⟨_, rfl, p, CL, dx, _, rfl, e12 _ _ h1, X.cl, X.nT, (by show 2 < 1000; decide), ?_⟩
      have e3 : putF "written" (.ref t) (lF wl .non) = lF wl (.ref t) := (put_past (by decide +kernel)).trans (congrArg _ put_here)
      have ntp : t ≠ p := (ne_of_none (e1 _ _ h1) ht).symm
      have hb : ExB p H (upd H2 p (.ins CL dx (putF "written" (.ref t) (lF wl .non)))) := fun b o e hb => by
        rw [upd_ne hb]
        exact e12 _ _ e
      have hp' : upd H2 p (.ins CL dx (putF "written" (.ref t) (lF wl .non))) p = some (.ins CL dx (lF wl (.ref t))) := by
        rw [upd_same, e3]
      have ht' : upd H2 p (.ins CL dx (putF "written" (.ref t) (lF wl .non))) t = some (.lst (nv (textOf L))) := by
        rw [upd_ne ntp]
        exact h2t
      exact fin t _ hb hp' ht' ⟨dx, ps, hp', hb.lst h1 h2, fun q hq => hb.word h1 (by decide +kernel) (h3 q hq), h4, .inr ⟨t, rfl, ht'⟩⟩ ⟨.inl rfl, .inr fun t2 z => by cases z; exact fresh_back e1 ht⟩
    · subst h5
      refine q_when (b := decide (V.ref t = V.non)) (et_test (ev_op fwr ev_c rv_isN)) (fun hb _ _ => by simp at hb) (fun _ H1 e1 => ?_)
      exact fin t H1 (ExB.of e1) (e1 _ _ h1) (e1 _ _ h6) (hL.mono e1) Lx.same
end
end So
/-! lexicon.py: put -/
namespace So
open PySem PySem.Spec PyProof.Rows L2 Evl
open PySem.W (EachIs)
section
variable {K : PySem.W.Frag} {σ : L2.St} {H : Hp} {ta tb te tl : TE} {D : Ends} {tu tz : TS}
/-- xs + ys, xs standing, ys new -/
theorem el_cat1 {l : Addr} {xs ys : List V} (ha : Ev ta σ H (.ref l)) (hl : H l = some (.lst xs)) (hb : EvL tb σ H ys) (hz : xs.length + ys.length ≤ sizeLine) : EvL (tOp rCat ta tb) σ H (xs ++ ys) := fun H1 e _ q =>
  ha H1 e _ fun H2 e2 => hb H2 (e.trans e2) _ fun p3 _ _ e3 h3 => ⟨l, p3, xs, ys, rfl, rfl, e3 _ _ (e2 _ _ (e _ _ hl)), h3, hz, fun p4 hp4 => q p4 _ (fresh_back (e2.trans e3) hp4) ((e2.trans e3).trans (Ex.new hp4)) upd_same⟩
theorem op_ltDK {X : Cx} {K : PySem.W.Frag} (hK : X.K = K) (hu : X.A.units + 64 < cLine) : OpR X (compareOp .Lt) (rLtD K) := by
  subst hK
  exact op_ltD hu
/-- order_of(a) < order_of(b) -/
theorem ev_before {CW : Addr} {E : XK} {p q : Addr} {a b : Sy.Word} (ha : Ev ta σ H (.ref p)) (hb : Ev tb σ H (.ref q)) (hA : WordAt K CW H p a) (hB : WordAt K CW H q b) :
    Ev (tOp (rLtD K) (tCall (spOrder K CW) [] E (tCons ta tNil)) (tCall (spOrder K CW) [] E (tCons tb tNil))) σ H (.bl (a.before b)) := fun H1 e Q k =>
  ha H1 e _ fun H2 e2 => ⟨p, a, rfl, hA.mono (e.trans e2), fun y H3 e3 dy => hb H3 ((e.trans e2).trans e3) _ fun H4 e4 => ⟨q, b, rfl, hB.mono (((e.trans e2).trans e3).trans e4), fun z H5 e5 dz =>
    ⟨keyD a, keyD b, dp_mono (e4.trans e5) _ _ dy, dz, alike_key a b, (by intro z; cases z), by rw [depth_key]; decide, by
      rw [dataLt_key]
      exact k H5 (((e2.trans e3).trans e4).trans e5)⟩⟩⟩
end
section
variable {P : Program} {w : World} {K : PySem.W.Frag} {mg : Str → Option Value} {base : Heap} {CW CL : Addr}
def putTold (L : List Sy.Word) (wd : Sy.Word) : Int := if wd.ok = false then -3 else if 128 ≤ (L.filter fun q => !q.same wd).length then -6 else (((L.filter fun q => !q.same wd).filter fun q => q.before wd).length : Int)
def putThen (L : List Sy.Word) (wd : Sy.Word) : List Sy.Word := if wd.ok = false then L else if 128 ≤ (L.filter fun q => !q.same wd).length then L else putP L wd
def spPut (K : PySem.W.Frag) (CW CL : Addr) : Sp := fun vs H Q _ => ∃ (p q : Addr) (L : List Sy.Word) (wl : Addr) (wr : V) (wd : Sy.Word), vs = [.ref p, .ref q] ∧ LexAt K CW CL H p L wl wr ∧ WordAt K CW H q wd ∧ wd.reading.length ≤ sizeLine ∧ wd.text.length ≤ sizeLine ∧ L.length ≤ 1000 ∧
  RetX K CW CL p [putTold L wd] (putThen L wd) wl wr H Q
theorem scPut : FnScope ["self", "word", "others", "before", "place", "other"] ["self", "word"] (defScope sPut) := ⟨rfl, rfl, rfl, by decide +kernel, rfl, by decide +kernel, by decide +kernel⟩
theorem filter_snd {ps : List (Addr × Sy.Word)} (f : Sy.Word → Bool) : wordsOf (ps.filter fun z => f z.2) = (wordsOf ps).filter f := by
  show (ps.filter fun z => f z.2).map Prod.snd = (ps.map Prod.snd).filter f
  rw [List.filter_map]
  rfl
theorem comp_refs {ps : List (Addr × Sy.Word)} (f : Sy.Word → Bool) : ((zsOf ps).filter fun z => f z.2).map Prod.fst = refsOf (ps.filter fun z => f z.2) := by
  rw [List.filter_map, List.map_map]
  rfl
theorem refsOf_app (a b : List (Addr × Sy.Word)) : refsOf (a ++ b) = refsOf a ++ refsOf b := List.map_append
theorem refsOf_drop (a : List (Addr × Sy.Word)) (n : Nat) : refsOf (a.drop n) = (refsOf a).drop n := List.map_drop
theorem refsOf_len (a : List (Addr × Sy.Word)) : (refsOf a).length = a.length := List.length_map ..
theorem putP_words (ps : List (Addr × Sy.Word)) (q : Addr) (wd : Sy.Word) :
    wordsOf (((ps.filter fun z => !z.2.same wd).filter fun z => z.2.before wd) ++ [(q, wd)] ++ (ps.filter fun z => !z.2.same wd).drop ((ps.filter fun z => !z.2.same wd).filter fun z => z.2.before wd).length) = putP (wordsOf ps) wd := by
  have e1 : wordsOf (ps.filter fun z => !z.2.same wd) = (wordsOf ps).filter fun x => !x.same wd := filter_snd fun x : Sy.Word => !x.same wd
  have e2 : wordsOf ((ps.filter fun z => !z.2.same wd).filter fun z => z.2.before wd) = ((wordsOf ps).filter fun x => !x.same wd).filter fun x => x.before wd := by
    rw [← e1]
    exact filter_snd fun x : Sy.Word => x.before wd
  have e3 : ((ps.filter fun z => !z.2.same wd).filter fun z => z.2.before wd).length = (((wordsOf ps).filter fun x => !x.same wd).filter fun x => x.before wd).length := by
    rw [← e2, List.length_map]
  show (_ ++ _ ++ _ : List (Addr × Sy.Word)).map Prod.snd = ((wordsOf ps).filter fun x => !x.same wd).filter (fun x => x.before wd) ++ [wd] ++ ((wordsOf ps).filter fun x => !x.same wd).drop (((wordsOf ps).filter fun x => !x.same wd).filter fun x => x.before wd).length
  rw [List.map_append, List.map_append, List.map_drop, e3, ← e2, ← e1]
  rfl
theorem ok_put {f f1 f2 f3 fk : Addr} {fd fd1 fd2 fd3 fdk : FuncData} (F : Fun K "put" "Lexicon.put" sPut f fd) (X : TxtX K mg CL)
    (D1 : Dn K mg "is_word" sIsWord ["word"] f1 fd1) (G1 : FnOk P w K mg base CX0 5 f1 fd1 ["word"] (spIsWord K CW))
    (D2 : Dn K mg "is_same" sIsSame ["word", "other"] f2 fd2) (G2 : FnOk P w K mg base CX0 1 f2 fd2 ["word", "other"] (spTwo K CW Sy.Word.same))
    (D3 : Dn K mg "order_of" sOrderOf ["word"] f3 fd3) (G3 : FnOk P w K mg base CX0 1 f3 fd3 ["word"] (spOrder K CW))
    (MK : Mn K CL "keep" "Lexicon.keep" sKeep ["self", "words"] fk fdk) (GK : FnOk P w K mg base CX0 1 fk fdk ["self", "words"] (spKeep CL)) :
    FnOk P w K mg base CX0 6 f fd ["self", "word"] (spPut K CW CL) := by
  refine F.ok scPut (fun vs H Q E h => ?_) (fun cdv A outer s H vs Q E hr h => ?_)
  · obtain ⟨p, q, L, _, _, wd, rfl, _⟩ := h
    rfl
  · obtain ⟨p, q, L, wl, wr, wd, rfl, hL, hW, l1, l2, hle, k⟩ := h
    have r1 : Room 1 _ := hr.mono (by decide)
    have r5 : Room 5 _ := hr.mono (by decide)
    obtain ⟨dx, ps, h1, h2, h3, h4, h5⟩ := id hL
    refine ⟨_, pss_cons (ps_if (pt_not (pt_val (pe_call G1 r5 rfl D1.g D1.kp D1.b .nil pass0 (pa_cons (pv 1) pa_nil)))) (pss_one (ps_ret (pe_lst (pa_cons (pe_ic X.nw) pa_nil)))) pss_nil)
      (pss_cons (ps_setLc (i := 2) (own := [("other", 5)]) (g := gName 5) rfl scPut.nd rfl rfl (sw_true rfl rfl rfl (by decide +kernel)) (pi_list (pe_fld (pv 0) rfl)) (blkOk_by (N := ["self", "word", "others", "before", "place", "other"]) (sc := defScope sPut) (by decide +kernel))
        (fun _ _ _ _ _ => pg_name (i := 5) scPut.nd rfl (Or.inl rfl)) (fun _ _ _ _ _ => pts_one (pt_not (pt_val (pe_call G2 r1 rfl D2.g D2.kp D2.b .nil pass0 (pa_cons (pv 5) (pa_cons (pv 1) pa_nil)))))) (fun _ _ _ _ _ => pv 5))
      (pss_cons (ps_if (pt_cmpR op_ge (pe_callB call_len_seq (by rfl) X.len PySem.boot_len (pa_cons (pv 2) pa_nil)) (pe_ic X.MW) (nomark _)) (pss_one (ps_ret (pe_lst (pa_cons (pe_ic X.fu) pa_nil)))) pss_nil)
      (pss_cons (ps_setLc (i := 3) (own := [("other", 5)]) (g := gName 5) rfl scPut.nd rfl rfl (sw_true rfl rfl rfl (by decide +kernel)) (pi_list (pv 2)) (blkOk_by (N := ["self", "word", "others", "before", "place", "other"]) (sc := defScope sPut) (by decide +kernel))
        (fun _ _ _ _ _ => pg_name (i := 5) scPut.nd rfl (Or.inl rfl)) (fun _ _ _ _ _ => pts_one (pt_cmpR (op_ltDK (K := K) rfl hr.units) (pe_call G3 r1 rfl D3.g D3.kp D3.b .nil pass0 (pa_cons (pv 5) pa_nil)) (pe_call G3 r1 rfl D3.g D3.kp D3.b .nil pass0 (pa_cons (pv 1) pa_nil)) (nomark _))) (fun _ _ _ _ _ => pv 5))
      (pss_cons (ps_set (i := 4) scPut.nd rfl (Or.inl rfl) (pe_callB call_len_seq (by rfl) X.len PySem.boot_len (pa_cons (pv 3) pa_nil)))
      (pss_cons (ps_expr (pe_meth (pv 0) X.cl MK.m GK r1 MK.b .nil pass0 (pa_cons (pe_op op_cat (pe_op op_cat (pv 3) (pe_lst (pa_cons (pv 1) pa_nil))) (pe_slice sl_list (pv 2) (po_some (pv 4)) po_none)) pa_nil)))
      (pss_one (ps_ret (pe_lst (pa_cons (pv 4) pa_nil))))))))), ?_⟩
    have lps : ps.length = L.length := by rw [← h4, List.length_map]
    refine q_when (b := !wd.ok) (et_not (et_B (call1 (ev_var rfl) fun H2 e2 Q' hq E => ⟨q, wd, rfl, hW.mono e2, l1, l2, hq⟩))) (fun hb H1 e1 => ?_) (fun hb H1 e1 => ?_)
    · have hf : wd.ok = false := by simpa using hb
      have e3 : putTold L wd = -3 := if_pos hf
      have e4 : putThen L wd = L := if_pos hf
      rw [e3, e4] at k
      exact el_lst (ea_cons ev_c ea_nil) (by decide) H1 (Ex.refl H1) _ fun r H2 hr2 e2 hr2' => k r H2 wl wr (fresh_back e1 hr2) hr2' (ExB.of (e1.trans e2)) (hL.mono (e1.trans e2)) Lx.same
    have hok : ¬ wd.ok = false := by simpa using hb
    -- others
    have c1 := el_compZ (K := K) (σ := start ["self", "word", "others", "before", "place", "other"] [V.ref p, V.ref q]) (H := H1) (a := wl) (zs := zsOf ps) (j := 5) (vs := [5]) (tl := tFld K (tVar 0) "words") (t := tNot (tB (tCall (spTwo K CW Sy.Word.same) [] E0 (tCons (tVar 5) (tCons (tVar 1) tNil))))) (te := tVar 5)
      (fun z => !z.2.same wd) (fun z => z.1) (ev_fld (ev_var rfl) (e1 _ _ h1) X.cl X.nW (lF_words _ _)) (by rw [zsOf_fst]; exact sq_of (e1 _ _ h2)) (by rw [List.length_map]; exact sz_ok (by omega)) (fun x => rfl)
      (fun z H3 e3 hz => by
        obtain ⟨u, hu, rfl⟩ := zsOf_mem hz
        exact et_not (et_B (call2 (ev_var rfl) (ev_var rfl) fun H4 e4 Q' hQ E => ⟨u.1, q, u.2, wd, rfl, (h3 u hu).mono ((e1.trans e3).trans e4), hW.mono ((e1.trans e3).trans e4), hQ⟩)))
      (fun z H3 e3 hz _ => ev_var rfl)
    rw [show ((zsOf ps).filter fun z : V × Sy.Word => !z.2.same wd).map (fun z => z.1) = refsOf (ps.filter fun z => !z.2.same wd) from comp_refs fun x : Sy.Word => !x.same wd] at c1
    refine q_asgL c1 fun lo H2 hlo e2 h2o => ?_
    have e12 := e1.trans e2
    have hlen := ev_len (K := K) (σ := (start ["self", "word", "others", "before", "place", "other"] [V.ref p, V.ref q]).set 2 (some (.ref lo))) (ta := tVar 2) (ev_var rfl) (sq_of h2o)
    have lo_len : (refsOf (ps.filter fun z => !z.2.same wd)).length = (L.filter fun q => !q.same wd).length := by
      rw [← h4, ← filter_snd fun x : Sy.Word => !x.same wd, List.length_map, List.length_map]
    rw [lo_len] at hlen
    refine q_when (b := decide ((128 : Int) ≤ ((L.filter fun q => !q.same wd).length : Int))) (et_test (ev_op hlen ev_c rv_I0)) (fun hb H3 e3 => ?_) (fun hb H3 e3 => ?_)
    · have hf : 128 ≤ (L.filter fun q => !q.same wd).length := by simp only [decide_eq_true_eq] at hb; omega
      have e5 : putTold L wd = -6 := (if_neg hok).trans (if_pos hf)
      have e6 : putThen L wd = L := (if_neg hok).trans (if_pos hf)
      rw [e5, e6] at k
      exact el_lst (ea_cons ev_c ea_nil) (by decide) H3 (Ex.refl H3) _ fun r H4 hr4 e4 hr4' => k r H4 wl wr (fresh_back (e12.trans e3) hr4) hr4' (ExB.of ((e12.trans e3).trans e4)) (hL.mono ((e12.trans e3).trans e4)) Lx.same
    have hlt : ¬ 128 ≤ (L.filter fun q => !q.same wd).length := by simp only [decide_eq_false_iff_not] at hb; omega
    have e13 := e12.trans e3
    have hos : ∀ u ∈ (ps.filter fun z => !z.2.same wd), u ∈ ps := fun u hu => (List.mem_filter.mp hu).1
    -- before
    have c2 := el_compZ (K := K) (σ := (start ["self", "word", "others", "before", "place", "other"] [V.ref p, V.ref q]).set 2 (some (.ref lo))) (H := H3) (a := lo) (zs := zsOf (ps.filter fun z => !z.2.same wd)) (j := 5) (vs := [5]) (tl := tVar 2) (t := tTest (tOp (rLtD K) (tCall (spOrder K CW) [] E0 (tCons (tVar 5) tNil)) (tCall (spOrder K CW) [] E0 (tCons (tVar 1) tNil)))) (te := tVar 5)
      (fun z => z.2.before wd) (fun z => z.1) (ev_var rfl) (by rw [zsOf_fst]; exact sq_of (e3 _ _ h2o)) (by
        rw [List.length_map]
        have := List.length_filter_le (fun z : Addr × Sy.Word => !z.2.same wd) ps
        exact sz_ok (by omega)) (fun x => rfl)
      (fun z H4 e4 hz => by
        obtain ⟨u, hu, rfl⟩ := zsOf_mem hz
        exact et_test (ev_before (ev_var rfl) (ev_var rfl) ((h3 u (hos u hu)).mono (e13.trans e4)) (hW.mono (e13.trans e4))))
      (fun z H4 e4 hz _ => ev_var rfl)
    rw [show ((zsOf (ps.filter fun z => !z.2.same wd)).filter fun z : V × Sy.Word => z.2.before wd).map (fun z => z.1) = refsOf ((ps.filter fun z => !z.2.same wd).filter fun z => z.2.before wd) from comp_refs fun x : Sy.Word => x.before wd] at c2
    refine q_asgL c2 fun lb H4 hlb e4 h4b => ?_
    have lb_len : (refsOf ((ps.filter fun z => !z.2.same wd).filter fun z => z.2.before wd)).length = ((L.filter fun q => !q.same wd).filter fun q => q.before wd).length := by
      rw [← h4, ← filter_snd fun x : Sy.Word => !x.same wd, ← filter_snd fun x : Sy.Word => x.before wd, List.length_map, List.length_map]
    have hlen2 := ev_len (K := K) (σ := ((start ["self", "word", "others", "before", "place", "other"] [V.ref p, V.ref q]).set 2 (some (.ref lo))).set 3 (some (.ref lb))) (ta := tVar 3) (ev_var rfl) (sq_of h4b)
    refine q_asg hlen2 fun H5 e5 => ?_
    have e15 := (e13.trans e4).trans e5
    have h5o := e5 _ _ (e4 _ _ (e3 _ _ h2o))
    have h5b := e5 _ _ h4b
    have fl1 := List.length_filter_le (fun z : Addr × Sy.Word => !z.2.same wd) ps
    have fl2 := List.length_filter_le (fun z : Addr × Sy.Word => z.2.before wd) (ps.filter fun z => !z.2.same wd)
    generalize hσ : (((start ["self", "word", "others", "before", "place", "other"] [V.ref p, V.ref q]).set 2 (some (.ref lo))).set 3 (some (.ref lb))).set 4 (some (.int ((refsOf ((ps.filter fun z => !z.2.same wd).filter fun z => z.2.before wd)).length : Int))) = σ5
    have hs0 : σ5[0]? = some (some (.ref p)) := by subst hσ; rfl
    have hs1 : σ5[1]? = some (some (.ref q)) := by subst hσ; rfl
    have hs2 : σ5[2]? = some (some (.ref lo)) := by subst hσ; rfl
    have hs3 : σ5[3]? = some (some (.ref lb)) := by subst hσ; rfl
    have hs4 : σ5[4]? = some (some (.int ((refsOf ((ps.filter fun z => !z.2.same wd).filter fun z => z.2.before wd)).length : Int))) := by subst hσ; rfl
    have sl := el_sl (K := K) (te := tVar 2) (tl := tPart (tVar 4)) (th := tNoPart) (H := H5) (ev_var hs2) (eo_some (ev_var hs4)) eo_none (sq_of h5o)
    rw [cut_drop (by rw [List.length_map, List.length_map]; exact fl2)] at sl
    have l1c := el_lst (σ := σ5) (H := H5) (ea_cons (ev_var (v := .ref q) hs1) ea_nil) (by show 1 ≤ 100000; decide)
    have cc := el_cat (el_cat1 (ev_var hs3) h5b l1c (by rw [List.length_map, List.length_singleton]; exact sz_ok (by omega))) sl (by rw [List.length_append, List.length_drop, List.length_map, List.length_map, List.length_singleton]; exact sz_ok (by omega))
    have ec : refsOf ((ps.filter fun z => !z.2.same wd).filter fun z => z.2.before wd) ++ [V.ref q] ++ (refsOf (ps.filter fun z => !z.2.same wd)).drop (refsOf ((ps.filter fun z => !z.2.same wd).filter fun z => z.2.before wd)).length =
        refsOf (((ps.filter fun z => !z.2.same wd).filter fun z => z.2.before wd) ++ [(q, wd)] ++ (ps.filter fun z => !z.2.same wd).drop ((ps.filter fun z => !z.2.same wd).filter fun z => z.2.before wd).length) := by
      rw [refsOf_app, refsOf_app, refsOf_drop, refsOf_len]
      rfl
    rw [ec] at cc
    refine keep_call hs0 (e15 _ _ h1) cc fun l H6 H' hl e6 hl1 hb hp' hl' => ?_
    have e16 := e15.trans e6
    have ke : putTold L wd = ((refsOf ((ps.filter fun z => !z.2.same wd).filter fun z => z.2.before wd)).length : Int) := by
      rw [lb_len]
      exact (if_neg hok).trans (if_neg hlt)
    have kt : putThen L wd = putP L wd := (if_neg hok).trans (if_neg hlt)
    rw [ke, kt] at k
    refine el_lst (ea_cons (ev_var hs4) ea_nil) (by show 1 ≤ 100000; decide) H' (Ex.refl H') _ fun r H7 hr7 e7 hr7' => ?_
    have eb := (ExB.pre e16 hb).post e7
    refine k r H7 l .non (fresh_keep e16 hb hp' hr7) hr7' eb ⟨dx, _, e7 _ _ hp', e7 _ _ hl', fun u hu => ?_, ?_, .inl rfl⟩ (Lx.fresh (fresh_back e15 hl))
    · have hu' : u ∈ ps ∨ u = (q, wd) := by
        rcases List.mem_append.mp hu with hu | hu
        · rcases List.mem_append.mp hu with hu | hu
          · exact .inl (hos u (List.mem_filter.mp hu).1)
          · exact .inr (List.mem_singleton.mp hu)
        · exact .inl (hos u (List.mem_of_mem_drop hu))
      rcases hu' with hu' | rfl
      · exact eb.word h1 (by decide +kernel) (h3 u hu')
      · exact eb.word h1 (by decide +kernel) hW
    · rw [← h4]
      exact putP_words ps q wd
end
end So
/-! lexicon.py: read -/
namespace So
open PySem PySem.Spec PyProof.Rows L2 Evl
open PySem.W (EachIs)
/-! mathematics of it -/
theorem partsOf_mem {k : Nat} : ∀ {r p : List Nat}, p ∈ partsOf k r → ∀ x ∈ p, x ∈ r
  | [], p, h, x, hx => by
    simp [partsOf] at h
    subst h
    cases hx
  | c :: r, p, h, x, hx => by
    unfold partsOf at h
    split at h
    · rcases List.mem_cons.mp h with rfl | h
      · cases hx
      · exact List.mem_cons_of_mem _ (partsOf_mem h x hx)
    · cases e : partsOf k r with
      | nil => exact absurd e (partsOf_ne k r)
      | cons q qs =>
        rw [e] at h
        rcases List.mem_cons.mp h with rfl | h
        · rcases List.mem_cons.mp hx with rfl | hx
          · exact List.mem_cons_self
          · exact List.mem_cons_of_mem _ (partsOf_mem (k := k) (r := r) (p := q) (by rw [e]; exact List.mem_cons_self) x hx)
        · exact List.mem_cons_of_mem _ (partsOf_mem (k := k) (r := r) (by rw [e]; exact List.mem_cons_of_mem _ h) x hx)
theorem closing_mem : ∀ {ps : List (List Nat)} {l : List Nat}, l ∈ closing ps → l ≠ [] ∧ ∃ p, p ∈ ps ∧ (l = p ∨ l = p ++ [10])
  | [], _, h => by cases h
  | [p], l, h => by
    have h' : l ∈ (if 0 < p.length then [p] else []) := h
    split at h'
    · rename_i c
      obtain rfl := List.mem_singleton.mp h'
      refine ⟨?_, l, List.mem_singleton.mpr rfl, .inl rfl⟩
      rintro rfl
      simp at c
    · cases h'
  | p :: q :: ps, l, h => by
    have h' : l ∈ (p ++ [10]) :: closing (q :: ps) := h
    rcases List.mem_cons.mp h' with rfl | h'
    · exact ⟨by simp, p, List.mem_cons_self, .inr rfl⟩
    · obtain ⟨h1, p', h2, h3⟩ := closing_mem h'
      exact ⟨h1, p', List.mem_cons_of_mem _ h2, h3⟩
theorem linesOf_mem {d l : List Nat} (hb : ∀ x ∈ d, x < 256) (h : l ∈ linesOf d) : l ≠ [] ∧ (∀ x ∈ l, x < 256) ∧ l.length ≤ d.length + 1 := by
  obtain ⟨h1, p, h2, h3⟩ := closing_mem h
  have hm := partsOf_mem h2
  have hl := partsOf_len h2
  refine ⟨h1, ?_, ?_⟩
  · rcases h3 with rfl | rfl
    · exact fun x hx => hb x (hm x hx)
    · intro x hx
      rcases List.mem_append.mp hx with hx | hx
      · exact hb x (hm x hx)
      · rw [List.mem_singleton.mp hx]
        decide
  · rcases h3 with rfl | rfl
    · omega
    · rw [List.length_append]
      simp
      omega
theorem wordIn_len {l : List Nat} {wd : Sy.Word} (hb : ∀ x ∈ l, x < 256) (h : wordIn l = some wd) : wd.reading.length ≤ l.length ∧ wd.text.length ≤ l.length := by
  unfold wordIn at h
  split at h
  · unfold wordOfLine at h
    split at h
    · rename_i row e
      have hbd : ∀ x ∈ l.dropLast, x < 256 := fun x hx => hb x (List.dropLast_subset l hx)
      have hrl := decoded_len hbd e
      rw [List.length_dropLast] at hrl
      unfold wordOfRow at h
      split at h
      · rename_i r t x y c e5
        have l1 := partsOf_len (k := 32) (r := row) (p := r) (by rw [e5]; simp)
        have l2 := partsOf_len (k := 32) (r := row) (p := t) (by rw [e5]; simp)
        split at h
        · split at h
          · cases h
            exact ⟨by show r.length ≤ _; omega, by show t.length ≤ _; omega⟩
          · cases h
        · cases h
      · cases h
    · cases h
  · cases h
theorem readLines_bad {i : Nat} {l : List Nat} {ls : List (List Nat)} {ws : List Sy.Word} (h : ¬ faultKind (wordIn l) ws = 0) : readLines i (l :: ls) ws = .error (i, faultKind (wordIn l) ws) := by
  show (match wordIn l with
    | none => Except.error (i, 1)
    | some w => if faultKind (some w) ws = 0 then readLines (i + 1) ls (ws ++ [w]) else Except.error (i, faultKind (some w) ws)) = _
  cases e : wordIn l with
  | none => rfl
  | some w =>
    rw [e] at h
    exact if_neg h
theorem readLines_good {i : Nat} {l : List Nat} {ls : List (List Nat)} {ws : List Sy.Word} {w : Sy.Word} (e : wordIn l = some w) (h : faultKind (wordIn l) ws = 0) : readLines i (l :: ls) ws = readLines (i + 1) ls (ws ++ [w]) := by
  show (match wordIn l with
    | none => Except.error (i, 1)
    | some w => if faultKind (some w) ws = 0 then readLines (i + 1) ls (ws ++ [w]) else Except.error (i, faultKind (some w) ws)) = _
  rw [e] at h ⊢
  exact if_pos h
theorem fault_few {ow : Option Sy.Word} {ws : List Sy.Word} (h : faultKind ow ws = 0) : (∃ w, ow = some w) ∧ ws.length < 128 := by
  cases ow with
  | none =>
    have h' : 1 = 0 := h
    cases h'
  | some w =>
    refine ⟨⟨w, rfl⟩, ?_⟩
    have h' : (if w.ok = false then 2 else if ws.any (fun q => w.same q) = true then 3 else if 128 ≤ ws.length then 4 else 0) = 0 := h
    split at h'
    · cases h'
    · split at h'
      · cases h'
      · split at h'
        · cases h'
        · omega
theorem wbef_tri3 (a b : Sy.Word) : a.before b = true ∨ (a.reading = b.reading ∧ a.cost = b.cost ∧ a.text = b.text) ∨ b.before a = true := by
  rw [wbef_iff, wbef_iff]
  rcases bef_tri a.reading b.reading with k | k | k
  · exact .inl (.inl k)
  · rcases Nat.lt_trichotomy a.cost b.cost with c | c | c
    · exact .inl (.inr ⟨k, .inl c⟩)
    · rcases bef_tri a.text b.text with t | t | t
      · exact .inl (.inr ⟨k, .inr ⟨c, t⟩⟩)
      · exact .inr (.inl ⟨k, c, t⟩)
      · exact .inr (.inr (.inr ⟨k.symm, .inr ⟨c.symm, t⟩⟩))
    · exact .inr (.inr (.inr ⟨k.symm, .inl c⟩))
  · exact .inr (.inr (.inl k))
/-- no word behind it -/
def leW (a b : Sy.Word) : Bool := !b.before a
theorem leW_trans (a b c : Sy.Word) (h1 : leW a b = true) (h2 : leW b c = true) : leW a c = true := by
  unfold leW at *
  simp only [Bool.not_eq_true'] at *
  cases e : c.before a with
  | false => rfl
  | true =>
    rcases wbef_tri3 b a with k | ⟨k1, k2, k3⟩ | k
    · rw [h1] at k; cases k
    · have : c.before b = true := by
        rw [wbef_iff] at e ⊢
        rw [k1, k2, k3]
        exact e
      rw [h2] at this; cases this
    · have := wbef_trans e k
      rw [h2] at this; cases this
theorem leW_total (a b : Sy.Word) : (leW a b || leW b a) = true := by
  unfold leW
  cases e : b.before a with
  | false => rfl
  | true =>
    rw [wbef_asym e]
    rfl
/-- words with their addresses, sorted -/
def sortPs (ps : List (Addr × Sy.Word)) : List (Addr × Sy.Word) := ps.mergeSort fun a b => leW a.2 b.2
theorem sortPs_perm (ps : List (Addr × Sy.Word)) : (wordsOf (sortPs ps)).Perm (wordsOf ps) := (List.mergeSort_perm ps _).map Prod.snd
theorem sortPs_pair (ps : List (Addr × Sy.Word)) : (wordsOf (sortPs ps)).Pairwise fun a b => b.before a = false := by
  show ((ps.mergeSort fun a b => leW a.2 b.2).map Prod.snd).Pairwise _
  rw [List.pairwise_map]
  have h := List.pairwise_mergeSort (le := fun a b : Addr × Sy.Word => leW a.2 b.2) (fun a b c => leW_trans a.2 b.2 c.2) (fun a b => leW_total a.2 b.2) ps
  exact h.imp fun {a b} q => by simpa [leW] using q
theorem sortPs_refs (ps : List (Addr × Sy.Word)) : (((ps.map fun p => (V.ref p.1, keyD p.2)).mergeSort (PySem.W.dataLe false Prod.snd)).map Prod.fst) = refsOf (sortPs ps) := by
  have e : (ps.mergeSort fun a b => leW a.2 b.2).map (fun p => (V.ref p.1, keyD p.2)) = (ps.map fun p => (V.ref p.1, keyD p.2)).mergeSort (PySem.W.dataLe false Prod.snd) := by
    refine List.map_mergeSort fun a _ b _ => ?_
    rw [PySem.W.dataLe_eq]
    show leW a.2 b.2 = !PySem.W.dataLt (keyD b.2) (keyD a.2)
    rw [dataLt_key]
    rfl
  rw [← e, List.map_map]
  rfl
section
variable {K : PySem.W.Frag} {σ : L2.St} {H : Hp} {ta tb te tl : TE} {D : Ends} {tu tz : TS}
/-- for i, x in enumerate(a list that stands): the turns -/
theorem enum_loop {p : Addr} {xs : List V} {j1 j2 : Nat} (hsq : SqL K H p xs) (Pv : Nat → L2.St → Hp → Prop) (h0 : Pv 0 σ H) (hl : ∀ i σ' H', i ≤ xs.length → Pv i σ' H' → SqL K H' p xs)
    (hs : ∀ i x σ' H', xs[i]? = some x → Pv i σ' H' → ∀ T, H' T = none → tu { D with nx := Pv (i + 1), ct := Pv (i + 1), bk := D.nx } ((σ'.set j1 (some (.int (i : Int)))).set j2 (some x)) (upd H' T (.tup [.int (i : Int), x])))
    (hd : ∀ σ' H', Pv xs.length σ' H' → D.nx σ' H') :
    ∃ W : Nat → Nat → L2.St → Hp → Prop, (∃ m, W 0 m σ H) ∧ ∀ i m σ H, W i m σ H →
      ((Ite K p).stop i H ∧ D.nx σ H) ∨ ((Ite K p).go i H ∧ ∃ N : L2.St → Hp → Prop, (∀ σ' H', N σ' H' → ∃ m', m' < m ∧ W (i + 1) m' σ' H') ∧ ∀ x H', (Ite K p).yld i H x H' → gTup K 2 (gCons (gName j1) (gCons (gName j2) gNil)) x σ H' fun σ2 H2 => tu { D with nx := N, ct := N, bk := D.nx } σ2 H2) := by
  refine ⟨fun i m σ H => i ≤ xs.length ∧ m = xs.length - i ∧ Pv i σ H, ⟨_, Nat.zero_le _, rfl, h0⟩, ?_⟩
  rintro i m σ' H' ⟨hi, rfl, q⟩
  have hsq := hl i σ' H' hi q
  rcases Nat.lt_or_eq_of_le hi with hlt | rfl
  · refine .inr ⟨⟨xs, xs[i], hsq, by simp [hlt]⟩, Pv (i + 1), fun σ'' H'' p' => ⟨xs.length - (i + 1), by omega, hlt, rfl, p'⟩, ?_⟩
    rintro x H'' ⟨T, y, rfl, hT, rfl, hy⟩
    exact ⟨T, _, rfl, st_of upd_same, rfl, _, _, rfl, _, _, rfl, rfl, hs i y σ' H' (hy xs hsq) q T hT⟩
  · exact .inl ⟨⟨xs, hsq, Nat.le_refl _⟩, hd σ' H' q⟩
/-- sorted(xs, key=f) -/
theorem el_sorted {fa l : Addr} {sp : Sp} {zs : List (V × PyData)} (h : Ev te σ H (.ref l)) (hs : SqL K H l (zs.map Prod.fst)) (hal : PySem.W.AllAlike (zs.map Prod.snd)) (hsk : PySem.W.Sortable (zs.map Prod.snd)) (hd : ∀ p ∈ zs, p.2.depth ≤ 32)
    (turn : ∀ p ∈ zs, ∀ H1, Ex H H1 → ∀ Q' : VK, (∀ y H2, Ex H1 H2 → Dp K H2 y p.2 → Q' y H2) → sp [p.1] H1 Q' E0) : EvL (tCKw (rSortedF K fa sp) (tCons te tNil) (tCons (tC (.ref fa)) tNil)) σ H ((zs.mergeSort (PySem.W.dataLe false Prod.snd)).map Prod.fst) := fun H1 e Q q =>
  h H1 e _ fun H2 e2 => ⟨l, zs, rfl, rfl, ex_l (e.trans e2) hs, hal, hsk, hd, fun p hp H3 e3 => turn p hp H3 ((e.trans e2).trans e3), fun p3 H3 hp e3 h3 => q p3 H3 (fresh_back e2 hp) (e2.trans e3) h3⟩
end
section
variable {P : Program} {w : World} {K : PySem.W.Frag} {mg : Str → Option Value} {base : Heap} {CW CL : Addr}
/-- a list of another content stands where that at l changes -/
theorem sql_off {K : PySem.W.Frag} {H : Hp} {l a : Addr} {o : HO} {xs ys : List V} (hl : H l = some (.lst ys)) (hne : xs ≠ ys) (h : SqL K H a xs) : SqL K (upd H l o) a xs := by
  rcases h with (h | ⟨o', h⟩) | h
  · refine .inl (.inl ?_)
    rw [upd_ne (ne_of h hl fun z => hne (by injection z))]
    exact h
  · refine .inl (.inr ⟨o', ?_⟩)
    rw [upd_ne (ne_of h hl (by intro z; cases z))]
    exact h
  · exact .inr h
theorem nv_ne_refs {r : List Nat} {ps : List (Addr × Sy.Word)} (h : r ≠ []) : nv r ≠ refsOf ps := by
  intro z
  cases r with
  | nil => exact h rfl
  | cons c r =>
    cases ps with
    | nil => cases z
    | cons p ps => cases (List.cons.inj z).1
theorem ok_ne {wd : Sy.Word} (h : wd.ok = true) : wd.reading ≠ [] ∧ wd.text ≠ [] := by
  rw [ok_eq] at h
  unfold isRowB at h
  simp only [Bool.and_eq_true, decide_eq_true_eq] at h
  constructor
  · intro z
    rw [z] at h
    exact absurd h.1.1 (by simp)
  · intro z
    rw [z] at h
    exact absurd h.2.1.1 (by simp)
theorem word_off {K : PySem.W.Frag} {CW : Addr} {H : Hp} {l a : Addr} {o : HO} {ps : List (Addr × Sy.Word)} {wd : Sy.Word} (hl : H l = some (.lst (refsOf ps))) (hok : wd.ok = true) (h : WordAt K CW H a wd) : WordAt K CW (upd H l o) a wd := by
  obtain ⟨dx, ra, ta, h1, h2, h3⟩ := h
  refine ⟨dx, ra, ta, ?_, sql_off hl (nv_ne_refs (ok_ne hok).1) h2, sql_off hl (nv_ne_refs (ok_ne hok).2) h3⟩
  rw [upd_ne (ne_of h1 hl (by intro z; cases z))]
  exact h1
theorem rows_off {K : PySem.W.Frag} {H : Hp} {l : Addr} {o : HO} {ps : List (Addr × Sy.Word)} (hl : H l = some (.lst (refsOf ps))) : ∀ {la : List Addr} {ls : List (List Nat)}, RowsAt K H la ls → (∀ r ∈ ls, r ≠ []) → RowsAt K (upd H l o) la ls
  | _, _, .nil, _ => .nil
  | _, _, .cons h t, hn => .cons (sql_off hl (nv_ne_refs (hn _ List.mem_cons_self)) h) (rows_off hl t fun r hr => hn r (List.mem_cons_of_mem _ hr))
theorem fault_ok {w : Sy.Word} {ws : List Sy.Word} (h : faultKind (some w) ws = 0) : w.ok = true := by
  have h' : (if w.ok = false then 2 else if ws.any (fun q => w.same q) = true then 3 else if 128 ≤ ws.length then 4 else 0) = 0 := h
  split at h'
  · cases h'
  · rename_i c
    simpa using c
/-- what read answers, as the lines tell -/
def ReadEnd (K : PySem.W.Frag) (CW CL : Addr) (p : Addr) (L : List Sy.Word) (wl : Addr) (wr : V) (H : Hp) (Q : VK) : Except (Nat × Nat) (List Sy.Word) → Prop
  | .error (i, k) => RetX K CW CL p [-2, (i : Int), (k : Int)] L wl wr H Q
  | .ok ws => ∀ M : List Sy.Word, M.Perm ws → (M.Pairwise fun a b => b.before a = false) → RetX K CW CL p [(ws.length : Int)] M wl wr H Q
def spRead (K : PySem.W.Frag) (CW CL : Addr) : Sp := fun vs H Q _ => ∃ (p a : Addr) (L : List Sy.Word) (wl : Addr) (wr : V) (d : List Nat), vs = [.ref p, .ref a] ∧ LexAt K CW CL H p L wl wr ∧ SqL K H a (nv d) ∧ (∀ x ∈ d, x < 256) ∧ d.length ≤ 50000 ∧ ReadEnd K CW CL p L wl wr H Q (readLines 0 (linesOf d) [])
theorem scRead : FnScope ["self", "data", "words", "at", "line", "word", "kind"] ["self", "data"] (defScope sRead) := ⟨rfl, rfl, rfl, by decide +kernel, rfl, by decide +kernel, by decide +kernel⟩
theorem rows_get {H : Hp} : ∀ {la : List Addr} {ls : List (List Nat)} {i : Nat} {x : V}, RowsAt K H la ls → (la.map V.ref)[i]? = some x → ∃ a l, x = .ref a ∧ ls[i]? = some l ∧ SqL K H a (nv l)
  | _, _, _, _, .nil, h => by simp at h
  | _, _, 0, _, .cons (a := a) (b := l) r _, h => ⟨a, l, (Option.some.inj h).symm, rfl, r⟩
  | _, _, i + 1, x, .cons _ t, h => by
    obtain ⟨a, l, h1, h2, h3⟩ := rows_get (i := i) (x := x) t h
    exact ⟨a, l, h1, h2, h3⟩
theorem ok_read {f f1 f2 f3 f4 fk : Addr} {fd fd1 fd2 fd3 fd4 fdk : FuncData} (F : Fun K "read" "Lexicon.read" sRead f fd) (X : TxtX K mg CL)
    (D1 : Dn K mg "lines_of" sLinesOf ["data"] f1 fd1) (G1 : FnOk P w K mg base CX0 1 f1 fd1 ["data"] (spLinesOf K))
    (D2 : Dn K mg "word_in" sWordIn ["line"] f2 fd2) (G2 : FnOk P w K mg base CX0 5 f2 fd2 ["line"] (spWordIn K CW))
    (D3 : Dn K mg "fault_kind" sFaultKind ["word", "before"] f3 fd3) (G3 : FnOk P w K mg base CX0 6 f3 fd3 ["word", "before"] (spFaultKind K CW))
    (D4 : Dn K mg "order_of" sOrderOf ["word"] f4 fd4) (G4 : FnOk P w K mg base CX0 1 f4 fd4 ["word"] (spOrder K CW))
    (MK : Mn K CL "keep" "Lexicon.keep" sKeep ["self", "words"] fk fdk) (GK : FnOk P w K mg base CX0 1 fk fdk ["self", "words"] (spKeep CL)) :
    FnOk P w K mg base CX0 7 f fd ["self", "data"] (spRead K CW CL) := by
  refine F.ok scRead (fun vs H Q E h => ?_) (fun cdv A outer s H vs Q E hr h => ?_)
  · obtain ⟨p, q, L, _, _, wd, rfl, _⟩ := h
    rfl
  · obtain ⟨p, a, L, wl, wr, d, rfl, hL, hS, hby, hle, k⟩ := h
    have r1 : Room 1 _ := hr.mono (by decide)
    have r5 : Room 5 _ := hr.mono (by decide)
    have r6 : Room 6 _ := hr.mono (by decide)
    have r3 : Room 3 _ := hr.mono (by decide)
    refine ⟨_, pss_cons (ps_if (pt_cmpR op_gt (pe_callB call_len_seq (by rfl) X.len PySem.boot_len (pa_cons (pv 1) pa_nil)) (pe_ic X.MB) (nomark _)) (pss_one (ps_ret (pe_lst (pa_cons (pe_ic X.tl) pa_nil)))) pss_nil)
      (pss_cons (ps_set (i := 2) scRead.nd rfl (Or.inl rfl) (pe_lst pa_nil))
      (pss_cons (ps_for PassesOwn.never rfl (pi_enum (by rfl) X.enum (pa_cons (pe_call G1 r1 rfl D1.g D1.kp D1.b .nil pass0 (pa_cons (pv 1) pa_nil)) pa_nil)) (pg_tup rfl (pgs_cons (pg_name (i := 3) scRead.nd rfl (Or.inl rfl)) (pgs_cons (pg_name (i := 4) scRead.nd rfl (Or.inl rfl)) pgs_nil)))
        (pss_cons (ps_set (i := 5) scRead.nd rfl (Or.inl rfl) (pe_call G2 r5 rfl D2.g D2.kp D2.b .nil pass0 (pa_cons (pv 4) pa_nil)))
        (pss_cons (ps_set (i := 6) scRead.nd rfl (Or.inl rfl) (pe_call G3 r6 rfl D3.g D3.kp D3.b .nil pass0 (pa_cons (pv 5) (pa_cons (pv 2) pa_nil))))
        (pss_cons (ps_if (pt_cmpR op_ne (pv 6) (pe_ic X.NF) (nomark _)) (pss_one (ps_ret (pe_lst (pa_cons (pe_ic X.fa) (pa_cons (pv 3) (pa_cons (pv 6) pa_nil)))))) pss_nil)
        (pss_one (ps_expr (pe_bm PySem.F.plainAttrs_list PySem.F.slot_list_append PySem.F.type_list_append mt_append (pv 2) (pa_cons (pv 5) pa_nil))))))))
      (pss_cons (ps_expr (pe_meth (pv 0) X.cl MK.m GK r1 MK.b .nil pass0 (pa_cons (pe_callBK (cr_sortedF G4 r3 D4.b) (by rfl) X.sorted (by decide +kernel) (pa_cons (pv 2) pa_nil) (pk_cons (pe_glob (v := .ref f4) rfl D4.g rfl) pk_nil)) pa_nil)))
      (pss_one (ps_ret (pe_lst (pa_cons (pe_callB call_len_seq (by rfl) X.len PySem.boot_len (pa_cons (pv 2) pa_nil)) pa_nil))))))), ?_⟩
    have hlen := ev_len (K := K) (σ := start ["self", "data", "words", "at", "line", "word", "kind"] [V.ref p, V.ref a]) (ta := tVar 1) (ev_var rfl) hS
    rw [nv_length] at hlen
    refine q_when (b := decide ((65536 : Int) < (d.length : Int))) (et_test (ev_op hlen ev_c rv_I0)) (fun hb _ _ => by simp at hb; omega) (fun hb H1 e1 => ?_)
    refine q_asgL ev_lst0 fun l H2 hl e2 h2 => ?_
    have e02 := e1.trans e2
    have hl0 : H l = none := fresh_back e1 hl
    obtain ⟨dx, ps0, g1, g2, g3, g4, g5⟩ := id hL
    have lne : ∀ r ∈ linesOf d, r ≠ [] := fun r hr => (linesOf_mem hby hr).1
    -- for at, line in enumerate(lines_of(data))
    refine ⟨_, rfl, a, d, rfl, ex_l e02 hS, by omega, fun q la H3 hq e3 h3 hrows => ?_⟩
    refine ⟨q, _, rfl, sq_of h3, ?_⟩
    have e03 := e02.trans e3
    have nql : q ≠ l := (ne_of_none h2 hq).symm
    refine enum_loop (K := K) (xs := la.map V.ref) (j1 := 3) (j2 := 4) (sq_of h3) (fun i σ' H' => ∃ (ps : List (Addr × Sy.Word)) (v3 v4 v5 v6 : Option V), σ' = [some (.ref p), some (.ref a), some (.ref l), v3, v4, v5, v6] ∧ Ex H H' ∧ H' q = some (.lst (la.map V.ref)) ∧ RowsAt K H' la (linesOf d) ∧ (∀ u ∈ ps, u.2.ok = true) ∧ H' l = some (.lst (refsOf ps)) ∧ WordsAt K CW H' ps ∧ ps.length = i ∧ i ≤ 128 ∧
        readLines 0 (linesOf d) [] = readLines i ((linesOf d).drop i) (wordsOf ps))
      ⟨[], none, none, none, none, rfl, e03, h3, hrows, (fun _ z => by cases z), e3 _ _ h2, (fun _ z => by cases z), rfl, by decide, rfl⟩ (fun i σ' H' _ ⟨_, _, _, _, _, _, _, e, _⟩ => sq_of e) ?_ ?_
    · rintro i x σ' H' hx ⟨ps, v3, v4, v5, v6, rfl, eH, hql, hrw, hoks, hll, hW, hlen, hi, hrd⟩ T hT
      obtain ⟨al, ln, rfl, hln, hal⟩ := rows_get hrw hx
      have hmem := linesOf_mem hby (List.mem_of_getElem? hln)
      obtain ⟨hne, hlb, hll2⟩ := hmem
      have hdj : (linesOf d).drop i = ln :: (linesOf d).drop (i + 1) := by
        obtain ⟨u1, u2⟩ := List.getElem?_eq_some_iff.mp hln
        rw [List.drop_eq_getElem_cons u1, u2]
      rw [hdj] at hrd
      have eT : Ex H' (upd H' T (.tup [.int (i : Int), .ref al])) := Ex.new hT
      have hsal := ex_l eT hal
      have eH4 := eH.trans eT
      have hql4 := eT _ _ hql
      have hrw4 := hrw.mono eT
      have hll4 := eT _ _ hll
      have hW4 := hW.mono eT
      generalize upd H' T (.tup [.int (i : Int), .ref al]) = H4 at *
      -- word = word_in(line)
      refine ⟨_, rfl, al, ln, rfl, hsal, hne, hlb, by omega, ?_⟩
      -- what follows, whatever the word
      have go : ∀ (D : Ends) (y : V) (H5 : Hp), D.rt = Q → (∀ σ' H', (∃ (ps : List (Addr × Sy.Word)) (v3 v4 v5 v6 : Option V), σ' = [some (.ref p), some (.ref a), some (.ref l), v3, v4, v5, v6] ∧ Ex H H' ∧ H' q = some (.lst (la.map V.ref)) ∧ RowsAt K H' la (linesOf d) ∧ (∀ u ∈ ps, u.2.ok = true) ∧ H' l = some (.lst (refsOf ps)) ∧ WordsAt K CW H' ps ∧ ps.length = i + 1 ∧ i + 1 ≤ 128 ∧ readLines 0 (linesOf d) [] = readLines (i + 1) ((linesOf d).drop (i + 1)) (wordsOf ps)) → D.nx σ' H') → Ex H4 H5 → IsW K CW H5 y (wordIn ln) →
          tSeq (tAsg (tCall (spFaultKind K CW) [] E0 (tCons (tVar 5) (tCons (tVar 2) tNil))) (gName 6)) (tSeq (tIfS (tTest (tOp rNe (tVar 6) (tC (.int 0)))) (tRet (tLst (tCons (tC (.int (-2))) (tCons (tVar 3) (tCons (tVar 6) tNil))))) tNext) (tDrop (tBM K "list" rAppend (tVar 2) (tCons (tVar 5) tNil)))) D
            [some (.ref p), some (.ref a), some (.ref l), some (.int (i : Int)), some (.ref al), some y, v6] H5 := by
        intro D y H5 hrt hnx e5 hy
        have isW : ∀ {H6 : Hp}, Ex H5 H6 → IsW K CW H6 y (wordIn ln) := fun {H6} e6 => by
          cases hw : wordIn ln with
          | none =>
            rw [hw] at hy
            exact hy
          | some wd =>
            rw [hw] at hy
            obtain ⟨p5, u1, u2, u3, u4⟩ := hy
            exact ⟨p5, u1, u2.mono e6, u3, u4⟩
        refine q_asg (v := .int (faultKind (wordIn ln) (wordsOf ps) : Int)) (call2 (ev_var rfl) (ev_var rfl) fun H6 e6 Q' hq E => ⟨y, wordIn ln, l, ps, rfl, isW e6, sq_of (e6 _ _ (e5 _ _ hll4)), hW4.mono (e5.trans e6), by omega, hq⟩) fun H6 e6 => ?_
        have e56 := e5.trans e6
        refine q_when (b := !decide (V.int (faultKind (wordIn ln) (wordsOf ps) : Int) = .int 0)) (et_test (ev_op (ev_var rfl) ev_c (rv_ne rfl))) (fun hb H7 e7 => ?_) (fun hb H7 e7 => ?_)
        · have hf : ¬ faultKind (wordIn ln) (wordsOf ps) = 0 := by
            intro z
            rw [z] at hb
            simp at hb
          rw [readLines_bad hf] at hrd
          rw [hrd] at k
          have k' : RetX K CW CL p [-2, (i : Int), (faultKind (wordIn ln) (wordsOf ps) : Int)] L wl wr H Q := k
          have e07 := (eH4.trans e56).trans e7
          refine ret_raw (el_lst (ea_cons ev_c (ea_cons (ev_var rfl) (ea_cons (ev_var rfl) ea_nil))) (by show 3 ≤ 100000; decide) H7 (Ex.refl H7) _ fun r H8 hr8 e8 hr8' => ?_)
          rw [hrt]
          exact k' r H8 wl wr (fresh_back e07 hr8) hr8' (ExB.of (e07.trans e8)) (hL.mono (e07.trans e8)) Lx.same
        · have hf : faultKind (wordIn ln) (wordsOf ps) = 0 := by
            simp at hb
            exact hb
          obtain ⟨⟨wd, hwd⟩, hfew⟩ := fault_few hf
          rw [readLines_good hwd hf] at hrd
          have hwok : wd.ok = true := fault_ok (ws := wordsOf ps) (by rw [← hwd]; exact hf)
          have hy7 := isW (e6.trans e7)
          rw [hwd] at hy7
          obtain ⟨p5, rfl, hwa, _, _⟩ := hy7
          have e57 := e56.trans e7
          rw [List.length_map] at hfew
          refine s_appS (v := .ref p5) (e57 _ _ hll4) (ev_var rfl) (ev_var rfl) (by rw [List.length_map]; exact Nat.lt_of_lt_of_le (by omega : _ < 10000000) (by decide)) fun H8 e8 => hnx _ _ ⟨ps ++ [(p5, wd)], _, _, _, _, rfl, ?_, ?_, ?_, ?_, ?_, ?_, ?_, by omega, ?_⟩
          · exact Ex.mut ((eH4.trans e57).trans e8) hl0
          · rw [upd_ne nql]
            exact e8 _ _ (e57 _ _ hql4)
          · exact rows_off (e8 _ _ (e57 _ _ hll4)) (hrw4.mono (e57.trans e8)) lne
          · intro u hu
            rcases List.mem_append.mp hu with hu | hu
            · exact hoks u hu
            · rw [List.mem_singleton.mp hu]
              exact hwok
          · rw [refsOf_app]
            exact upd_same
          · intro u hu
            rcases List.mem_append.mp hu with hu | hu
            · exact word_off (e8 _ _ (e57 _ _ hll4)) (hoks u hu) ((hW4 u hu).mono (e57.trans e8))
            · rw [List.mem_singleton.mp hu]
              exact word_off (e8 _ _ (e57 _ _ hll4)) hwok (hwa.mono e8)
          · rw [List.length_append, hlen]
            rfl
          · rw [hrd]
            show _ = readLines (i + 1) _ ((ps ++ [(p5, wd)]).map Prod.snd)
            rw [List.map_append]
            rfl
      cases hw : wordIn ln with
      | none =>
        rw [hw] at go
        intro H5 e5
        exact go _ _ H5 rfl (fun _ _ h => h) e5 rfl
      | some wd =>
        have hlw := wordIn_len hlb hw
        rw [hw] at go
        intro p5 H5 hp5 e5 hwd
        exact go _ _ H5 rfl (fun _ _ h => h) e5 ⟨p5, rfl, hwd, sz_ok (by omega), sz_ok (by omega)⟩
    · rintro σ' H' ⟨ps, v3, v4, v5, v6, rfl, eH, hql, hrw, hoks, hll, hW, hlen, hi, hrd⟩
      have hend : (linesOf d).drop (la.map V.ref).length = [] := by
        rw [List.length_map, hrows.length, List.drop_length]
      rw [hend] at hrd
      have hrd' : readLines 0 (linesOf d) [] = .ok (wordsOf ps) := hrd
      rw [hrd'] at k
      have k' : ∀ M : List Sy.Word, M.Perm (wordsOf ps) → (M.Pairwise fun a b => b.before a = false) → RetX K CW CL p [((wordsOf ps).length : Int)] M wl wr H Q := k
      have k2 := k' _ (sortPs_perm ps) (sortPs_pair ps)
      rw [List.length_map] at k2
      have srt := el_sorted (K := K) (fa := f4) (l := l) (sp := spOrder K CW) (te := tVar 2) (σ := [some (.ref p), some (.ref a), some (.ref l), v3, v4, v5, v6]) (H := H') (zs := ps.map fun p => (V.ref p.1, keyD p.2)) (ev_var rfl) (by rw [List.map_map]; exact sq_of hll)
        (fun x hx y hy => by
          rw [List.map_map] at hx hy
          obtain ⟨u, _, rfl⟩ := List.mem_map.mp hx
          obtain ⟨u2, _, rfl⟩ := List.mem_map.mp hy
          exact alike_key u.2 u2.2)
        (.inl fun x hx => by
          rw [List.map_map] at hx
          obtain ⟨u, _, rfl⟩ := List.mem_map.mp hx
          exact ⟨_, _, rfl⟩)
        (fun z hz => by
          obtain ⟨u, _, rfl⟩ := List.mem_map.mp hz
          show (keyD u.2).depth ≤ 32
          rw [depth_key]
          decide)
        (fun z hz H4 e4 Q' hq => by
          obtain ⟨u, hu, rfl⟩ := List.mem_map.mp hz
          exact ⟨u.1, u.2, rfl, (hW u hu).mono e4, hq⟩)
      rw [sortPs_refs] at srt
      refine keep_call rfl (eH _ _ g1) srt fun l2 H5 H6 hl2 e5 hl5 hb hp' hl' => ?_
      have e05 := eH.trans e5
      have hll6 : H6 l = some (.lst (refsOf ps)) := hb.lst (e05 _ _ g1) (e5 _ _ hll)
      have hlen6 := ev_len (K := K) (σ := [some (.ref p), some (.ref a), some (.ref l), v3, v4, v5, v6]) (ta := tVar 2) (ev_var rfl) (sq_of hll6)
      rw [List.length_map] at hlen6
      refine ret_raw (el_lst (ea_cons hlen6 ea_nil) (by show 1 ≤ 100000; decide) H6 (Ex.refl H6) _ fun r H7 hr7 e7 hr7' => ?_)
      have eb := (ExB.pre e05 hb).post e7
      refine k2 r H7 l2 .non (fresh_keep e05 hb hp' hr7) hr7' eb ⟨dx, sortPs ps, e7 _ _ hp', e7 _ _ hl', fun u hu => ?_, rfl, .inl rfl⟩ (Lx.fresh (fresh_back eH hl2))
      have hum : u ∈ ps := (List.mergeSort_perm ps _).mem_iff.mp hu
      exact (ExB.word hb (e05 _ _ g1) (by decide +kernel) ((hW u hum).mono e5)).mono e7
end
end So
/-! words.py: what is handed in, taken from its front -/
namespace So
open PySem PySem.Spec PyProof.Rows L2 Evl
open PySem.W (EachIs)
abbrev sGiven : Stmt := top 81
abbrev sGInit : Stmt := inClass sGiven 0
abbrev sHasMore : Stmt := inClass sGiven 1
abbrev sTakeN : Stmt := inClass sGiven 2
abbrev sTakeRow : Stmt := inClass sGiven 3
abbrev sTakeWord : Stmt := top 82
structure TxtG (K : PySem.W.Frag) (mg : Str → Option Value) (CG : Addr) : Prop where
  len : mg "len" = none
  cl : Cls K CG
  nN : NoAttr K CG "numbers"
  nP : NoAttr K CG "place"
  gG : mg "Given" = some (.ref CG)
def gF (a : Addr) (k : Nat) : List (Str × V) := [("numbers", .ref a), ("place", .int (k : Int))]
def GivenAt (CG : Addr) (H : Hp) (g a : Addr) (k : Nat) : Prop := ∃ dx, H g = some (.ins CG dx (gF a k))
theorem gF_numbers (a : Addr) (k : Nat) : (gF a k).lookup ("numbers" : Str) = some (.ref a) := lk_here
theorem gF_place (a : Addr) (k : Nat) : (gF a k).lookup ("place" : Str) = some (.int (k : Int)) := (lk_past (by decide +kernel)).trans lk_here
theorem gF_no {m : Str} (a : Addr) (k : Nat) (h1 : (m == ("numbers" : Str)) = false) (h2 : (m == ("place" : Str)) = false) : (gF a k).lookup m = none := (lk_past h1).trans ((lk_past h2).trans rfl)
theorem gF_put (a : Addr) (k j : Nat) : putF "place" (.int (j : Int)) (gF a k) = gF a j := (put_past (by decide +kernel)).trans (congrArg _ put_here)
theorem GivenAt.mono {CG : Addr} {H H' : Hp} {g a : Addr} {k : Nat} (e : Ex H H') (h : GivenAt CG H g a k) : GivenAt CG H' g a k := by
  obtain ⟨dx, h1⟩ := h
  exact ⟨dx, e _ _ h1⟩
/-- the lexicon changes, what is handed in stands -/
theorem GivenAt.but {CG CL : Addr} {H H' : Hp} {g a p dx wl : Addr} {wr : V} {k : Nat} (b : ExB p H H') (hp : H p = some (.ins CL dx (lF wl wr))) (h : GivenAt CG H g a k) : GivenAt CG H' g a k := by
  obtain ⟨d, h1⟩ := h
  exact ⟨d, b _ _ h1 (ne_of h1 hp (key_ne (by decide +kernel)))⟩
theorem GivenAt.seq {K : PySem.W.Frag} {CG : Addr} {H H' : Hp} {g a a2 : Addr} {k : Nat} {xs : List V} (h : GivenAt CG H g a k) (b : ExB g H H') (hs : SqL K H a2 xs) : SqL K H' a2 xs := by
  obtain ⟨d, h1⟩ := h
  exact b.seq h1 hs
theorem GivenAt.lex {K : PySem.W.Frag} {CW CL CG : Addr} {H H' : Hp} {g a p wl : Addr} {wr : V} {k : Nat} {L : List Sy.Word} (h : GivenAt CG H g a k) (b : ExB g H H') (hL : LexAt K CW CL H p L wl wr) : LexAt K CW CL H' p L wl wr := by
  obtain ⟨d, h1⟩ := h
  exact hL.but b h1 (by decide +kernel) (by decide +kernel)
theorem GivenAt.fresh {CG : Addr} {H H' : Hp} {g a q : Addr} {k k' : Nat} (_ : GivenAt CG H g a k) (b : ExB g H H') (h' : GivenAt CG H' g a k') (hq : H' q = none) : H q = none := by
  obtain ⟨d, h1⟩ := h'
  exact fresh_keep (Ex.refl H) b h1 hq
section
variable {P : Program} {w : World} {K : PySem.W.Frag} {mg : Str → Option Value} {base : Heap} {CW CL CG : Addr}
def spGInit (CG : Addr) : Sp := fun vs H Q _ => ∃ (g dx a : Addr), vs = [.ref g, .ref a] ∧ H g = some (.ins CG dx []) ∧ ∀ H' : Hp, GivenAt CG H' g a 0 → ExB g H H' → Q .non H'
theorem scGInit : FnScope ["self", "numbers"] ["self", "numbers"] (defScope sGInit) := ⟨rfl, rfl, rfl, by decide +kernel, rfl, by decide +kernel, by decide +kernel⟩
theorem ok_gInit {f : Addr} {fd : FuncData} (F : Fun K "__init__" "Given.__init__" sGInit f fd) (X : TxtG K mg CG) : FnOk P w K mg base CX0 1 f fd ["self", "numbers"] (spGInit CG) := by
  refine F.ok scGInit (fun vs H Q E h => ?_) (fun cdv A outer s H vs Q E hr h => ?_)
  · obtain ⟨p, dx, a, rfl, _⟩ := h
    rfl
  · obtain ⟨p, dx, a, rfl, hp, k⟩ := h
    refine ⟨_, pss_cons (ps_fld (pv 0) (pv 1) rfl) (pss_one (ps_fld (pv 0) pe_int rfl)), ?_⟩
    refine ⟨_, rfl, _, rfl, p, CG, dx, _, rfl, hp, X.cl, X.nN, (by show 0 < 1000; decide), _, rfl, p, CG, dx, _, rfl, upd_same, X.cl, X.nP, (by show 1 < 1000; decide), ?_⟩
    have e2 : putF "place" (.int 0) (putF "numbers" (.ref a) []) = gF a 0 := (put_past (by decide +kernel)).trans rfl
    refine k _ ⟨dx, upd_same.trans (congrArg (fun x => some (HO.ins CG dx x)) e2)⟩ fun b o e hb => ?_
    rw [upd_ne hb, upd_ne hb]
    exact e
def spHasMore (K : PySem.W.Frag) (CG : Addr) : Sp := fun vs H Q _ => ∃ (g a : Addr) (k : Nat) (cl : List Nat), vs = [.ref g] ∧ GivenAt CG H g a k ∧ SqL K H a (nv cl) ∧ RetV (.bl (decide (k < cl.length))) H Q
theorem scHasMore : FnScope ["self"] ["self"] (defScope sHasMore) := ⟨rfl, rfl, rfl, by decide +kernel, rfl, by decide +kernel, by decide +kernel⟩
theorem ok_hasMore {f : Addr} {fd : FuncData} (F : Fun K "has_more" "Given.has_more" sHasMore f fd) (X : TxtG K mg CG) : FnOk P w K mg base CX0 1 f fd ["self"] (spHasMore K CG) := by
  refine F.ok scHasMore (fun vs H Q E h => ?_) (fun cdv A outer s H vs Q E hr h => ?_)
  · obtain ⟨p, dx, a, _, rfl, _⟩ := h
    rfl
  · obtain ⟨g, a, j, cl, rfl, ⟨dx, hg⟩, hS, k⟩ := h
    refine ⟨_, pss_one (ps_ret (pe_cmpR op_lt (pe_fld (pv 0) rfl) (pe_callB call_len_seq (by rfl) X.len PySem.boot_len (pa_cons (pe_fld (pv 0) rfl) pa_nil)) (nomark _))), ?_⟩
    have hlen := ev_len (K := K) (H := H) (ev_fld (K := K) (σ := start ["self"] [V.ref g]) (f := "numbers") (ev_var (i := 0) rfl) hg X.cl X.nN (gF_numbers _ _)) hS
    rw [nv_length] at hlen
    have c : Ev (tOp (rI0 fun i j => .bl (decide (i < j))) (tFld K (tVar 0) "place") (tCB (rLenS K) (tCons (tFld K (tVar 0) "numbers") tNil))) (start ["self"] [V.ref g]) H (.bl (decide ((j : Int) < (cl.length : Int)))) :=
      ev_op (ev_fld (ev_var rfl) hg X.cl X.nP (gF_place _ _)) hlen rv_I0
    refine c H (Ex.refl H) _ fun H1 e1 => ?_
    have e : decide ((j : Int) < (cl.length : Int)) = decide (j < cl.length) := by rw [decide_eq_decide]; omega
    rw [e]
    exact k H1 e1
def spTakeN (K : PySem.W.Frag) (CG : Addr) : Sp := fun vs H Q _ => ∃ (g a : Addr) (k : Nat) (cl : List Nat) (n : Nat), vs = [.ref g] ∧ GivenAt CG H g a k ∧ SqL K H a (nv cl) ∧ cl[k]? = some n ∧ ∀ H' : Hp, ExB g H H' → GivenAt CG H' g a (k + 1) → Q (.int (n : Int)) H'
theorem scTakeN : FnScope ["self", "number"] ["self"] (defScope sTakeN) := ⟨rfl, rfl, rfl, by decide +kernel, rfl, by decide +kernel, by decide +kernel⟩
theorem ok_takeN {f : Addr} {fd : FuncData} (F : Fun K "take_number" "Given.take_number" sTakeN f fd) (X : TxtG K mg CG) : FnOk P w K mg base CX0 1 f fd ["self"] (spTakeN K CG) := by
  refine F.ok scTakeN (fun vs H Q E h => ?_) (fun cdv A outer s H vs Q E hr h => ?_)
  · obtain ⟨p, dx, a, _, _, rfl, _⟩ := h
    rfl
  · obtain ⟨g, a, j, cl, n, rfl, ⟨dx, hg⟩, hS, hn, k⟩ := h
    refine ⟨_, pss_cons (ps_set (i := 1) scTakeN.nd rfl (Or.inl rfl) (pe_ix ix_list (pe_fld (pv 0) rfl) (pe_fld (pv 0) rfl) (fun _ _ => rfl))) (pss_cons (ps_fldaug (pv 0) pe_int in_add) (pss_one (ps_ret (pv 1)))), ?_⟩
    refine q_asg (v := .int (n : Int)) (ev_ixN (ev_fld (ev_var rfl) hg X.cl X.nN (gF_numbers _ _)) (ev_fld (ev_var rfl) hg X.cl X.nP (gF_place _ _)) hS (nv_get hn)) fun H1 e1 => ?_
    refine ⟨_, rfl, g, CG, dx, _, _, rfl, e1 _ _ hg, X.cl, X.nP, gF_place _ _, _, _, rfl, rfl, dx, _, e1 _ _ hg, (by show 2 < 1000; decide), ?_⟩
    have e2 : putF "place" (.int ((j : Int) + 1)) (gF a j) = gF a (j + 1) := gF_put a j (j + 1)
    rw [e2]
    refine (ev_var rfl : Ev _ _ _ _) _ (Ex.refl _) _ fun H2 e3 => k H2 (fun b o e hb => e3 _ _ (by rw [upd_ne hb]; exact e1 _ _ e)) ⟨dx, e3 _ _ upd_same⟩
def spTakeRow (K : PySem.W.Frag) (CG : Addr) : Sp := fun vs H Q _ => ∃ (g a : Addr) (k : Nat) (cl r s : List Nat), vs = [.ref g] ∧ GivenAt CG H g a k ∧ SqL K H a (nv cl) ∧ rowN (cl.drop k) = some (r, s) ∧
  ∀ (q : Addr) (k' : Nat) (H' : Hp), H q = none → H' q = some (.lst (nv r)) → ExB g H H' → GivenAt CG H' g a k' → cl.drop k' = s → Q (.ref q) H'
theorem scTakeRow : FnScope ["self", "length", "start"] ["self"] (defScope sTakeRow) := ⟨rfl, rfl, rfl, by decide +kernel, rfl, by decide +kernel, by decide +kernel⟩
theorem rowN_some {l r s : List Nat} (h : rowN l = some (r, s)) : ∃ n t, l = n :: t ∧ n ≤ t.length ∧ r = t.take n ∧ s = t.drop n := by
  cases l with
  | nil => cases h
  | cons n t =>
    have h' : (if n ≤ t.length then some (t.take n, t.drop n) else none) = some (r, s) := h
    split at h'
    · rename_i c
      cases h'
      exact ⟨n, t, rfl, c, rfl, rfl⟩
    · cases h'
theorem drop_front {cl : List Nat} {k n : Nat} {t : List Nat} (h : cl.drop k = n :: t) : cl[k]? = some n ∧ cl.drop (k + 1) = t ∧ k + 1 + t.length = cl.length := by
  have h1 := congrArg List.head? h
  rw [List.head?_drop] at h1
  have h2 := congrArg List.tail h
  rw [List.tail_drop] at h2
  have h3 := congrArg List.length h
  rw [List.length_drop, List.length_cons] at h3
  exact ⟨h1, h2, by omega⟩
theorem ok_takeRow {f fn : Addr} {fd fdn : FuncData} (F : Fun K "take_row" "Given.take_row" sTakeRow f fd) (X : TxtG K mg CG) (MN : Mn K CG "take_number" "Given.take_number" sTakeN ["self"] fn fdn) (GN : FnOk P w K mg base CX0 1 fn fdn ["self"] (spTakeN K CG)) :
    FnOk P w K mg base CX0 2 f fd ["self"] (spTakeRow K CG) := by
  refine F.ok scTakeRow (fun vs H Q E h => ?_) (fun cdv A outer s H vs Q E hr h => ?_)
  · obtain ⟨p, dx, a, _, _, _, rfl, _⟩ := h
    rfl
  · obtain ⟨g, a, j, cl, r, sr, rfl, hG, hS, hrow, k⟩ := h
    have r1 : Room 1 _ := hr.mono (by decide)
    refine ⟨_, pss_cons (ps_set (i := 1) scTakeRow.nd rfl (Or.inl rfl) (pe_meth0 (pv 0) X.cl MN.m GN r1 MN.b .nil pass0)) (pss_cons (ps_set (i := 2) scTakeRow.nd rfl (Or.inl rfl) (pe_fld (pv 0) rfl))
      (pss_cons (ps_fldaug (pv 0) (pv 1) in_add) (pss_one (ps_ret (pe_slice sl_list (pe_fld (pv 0) rfl) (po_some (pv 2)) (po_some (pe_fld (pv 0) rfl)))))))
      , ?_⟩
    obtain ⟨n, t, h1, h2, rfl, rfl⟩ := rowN_some hrow
    obtain ⟨u1, u2, u3⟩ := drop_front h1
    obtain ⟨dx, hg⟩ := id hG
    refine ⟨_, rfl, g, dx, _, rfl, hg, gF_no _ _ (by decide +kernel) (by decide +kernel), ?_⟩
    refine ⟨g, a, j, cl, n, rfl, hG, hS, u1, fun H1 b1 hG1 => ?_⟩
    have hS1 := hG.seq b1 hS
    obtain ⟨d1, hg1⟩ := id hG1
    refine q_asg (v := .int ((j + 1 : Nat) : Int)) (ev_fld (ev_var rfl) hg1 X.cl X.nP (gF_place _ _)) fun H2 e2 => ?_
    refine ⟨_, rfl, g, CG, d1, _, _, rfl, e2 _ _ hg1, X.cl, X.nP, gF_place _ _, _, rfl, _, _, rfl, rfl, d1, _, e2 _ _ hg1, (by show 2 < 1000; decide), ?_⟩
    have e3 : putF "place" (.int (((j + 1 : Nat) : Int) + (n : Int))) (gF a (j + 1)) = gF a (j + 1 + n) := by
      have := gF_put a (j + 1) (j + 1 + n)
      have e : ((j + 1 + n : Nat) : Int) = ((j + 1 : Nat) : Int) + (n : Int) := by omega
      rw [e] at this
      exact this
    rw [e3]
    have hg2 : upd H2 g (.ins CG d1 (gF a (j + 1 + n))) g = some (.ins CG d1 (gF a (j + 1 + n))) := upd_same
    have b2 : ExB g H1 (upd H2 g (.ins CG d1 (gF a (j + 1 + n)))) := fun b o e hb => by
      rw [upd_ne hb]
      exact e2 _ _ e
    have hS2 := hG1.seq b2 hS1
    generalize upd H2 g (.ins CG d1 (gF a (j + 1 + n))) = H3 at *
    have sl := el_sl (K := K) (σ := ((start ["self", "length", "start"] [V.ref g]).set 1 (some (.int (n : Int)))).set 2 (some (.int ((j + 1 : Nat) : Int)))) (H := H3) (te := tFld K (tVar 0) "numbers") (tl := tPart (tVar 2)) (th := tPart (tFld K (tVar 0) "place")) (ev_fld (ev_var rfl) hg2 X.cl X.nN (gF_numbers _ _)) (eo_some (ev_var rfl)) (eo_some (ev_fld (ev_var rfl) hg2 X.cl X.nP (gF_place _ _))) hS2
    rw [cut_nat (by omega) (by rw [nv_length]; omega)] at sl
    have ec : ((nv cl).drop (j + 1)).take (j + 1 + n - (j + 1)) = nv (t.take n) := by
      rw [← List.map_drop, ← List.map_take, u2]
      congr 2
      omega
    rw [ec] at sl
    refine ret_raw (sl H3 (Ex.refl H3) _ fun q H4 hq e4 h4 => ?_)
    have hq1 : H1 q = none := fresh_keep (Ex.refl H1) b2 hg2 hq
    refine k q (j + 1 + n) H4 (hG.fresh b1 hG1 hq1) h4 ((b1.trans b2).post e4) ⟨d1, e4 _ _ hg2⟩ ?_
    rw [← u2, List.drop_drop]
/-! take_word -/
def spTakeWord (K : PySem.W.Frag) (CW CG : Addr) : Sp := fun vs H Q _ => ∃ (g a : Addr) (k : Nat) (cl : List Nat) (x y c : Nat) (r0 r s t u : List Nat), vs = [.ref g] ∧ GivenAt CG H g a k ∧ SqL K H a (nv cl) ∧ cl.drop k = x :: y :: c :: r0 ∧ rowN r0 = some (r, s) ∧ rowN s = some (t, u) ∧
  ∀ (q : Addr) (k' : Nat) (H' : Hp), H q = none → WordAt K CW H' q ⟨r, t, x, y, c⟩ → ExB g H H' → GivenAt CG H' g a k' → cl.drop k' = u → Q (.ref q) H'
theorem scTakeWord : FnScope ["given", "left", "right", "cost", "reading", "text"] ["given"] (defScope sTakeWord) := ⟨rfl, rfl, rfl, by decide +kernel, rfl, by decide +kernel, by decide +kernel⟩
/-- x = given.take_number() -/
theorem take_number {σ : L2.St} {H : Hp} {D : Ends} {tz : TS} {i : Nat} {g a : Addr} {k n : Nat} {cl t : List Nat} (h0 : σ[0]? = some (some (.ref g))) (hG : GivenAt CG H g a k) (hS : SqL K H a (nv cl)) (hd : cl.drop k = n :: t)
    (go : ∀ H', ExB g H H' → GivenAt CG H' g a (k + 1) → SqL K H' a (nv cl) → cl.drop (k + 1) = t → tz D (σ.set i (some (.int (n : Int)))) H') : tSeq (tAsg (tMeth CG "take_number" (spTakeN K CG) [] E0 (tVar 0) tNil) (gName i)) tz D σ H := by
  obtain ⟨dx, hg⟩ := id hG
  obtain ⟨u1, u2, u3⟩ := drop_front hd
  exact ⟨_, h0, g, dx, _, rfl, hg, gF_no _ _ (by decide +kernel) (by decide +kernel), g, a, k, cl, n, rfl, hG, hS, u1, fun H' b hG' => go H' b hG' (hG.seq b hS) u2⟩
/-- x = given.take_row() -/
theorem take_row {σ : L2.St} {H : Hp} {D : Ends} {tz : TS} {i : Nat} {g a : Addr} {k : Nat} {cl r s : List Nat} (h0 : σ[0]? = some (some (.ref g))) (hG : GivenAt CG H g a k) (hS : SqL K H a (nv cl)) (hd : rowN (cl.drop k) = some (r, s))
    (go : ∀ q k' H', H q = none → H' q = some (.lst (nv r)) → ExB g H H' → GivenAt CG H' g a k' → SqL K H' a (nv cl) → cl.drop k' = s → tz D (σ.set i (some (.ref q))) H') : tSeq (tAsg (tMeth CG "take_row" (spTakeRow K CG) [] E0 (tVar 0) tNil) (gName i)) tz D σ H := by
  obtain ⟨dx, hg⟩ := id hG
  exact ⟨_, h0, g, dx, _, rfl, hg, gF_no _ _ (by decide +kernel) (by decide +kernel), g, a, k, cl, r, s, rfl, hG, hS, hd, fun q k' H' hq h1 b hG' hd' => go q k' H' hq h1 b hG' (hG.seq b hS) hd'⟩
theorem ok_takeWord {f fn fr fW : Addr} {fd fdn fdr fdW : FuncData} (D : Dn K mg "take_word" sTakeWord ["given"] f fd) (T : TxtR K mg CW) (X : TxtG K mg CG) (MN : Mn K CG "take_number" "Given.take_number" sTakeN ["self"] fn fdn) (GN : FnOk P w K mg base CX0 1 fn fdn ["self"] (spTakeN K CG))
    (MR : Mn K CG "take_row" "Given.take_row" sTakeRow ["self"] fr fdr) (GR : FnOk P w K mg base CX0 2 fr fdr ["self"] (spTakeRow K CG)) (W : WordC P w K mg base CW fW fdW) :
    FnOk P w K mg base CX0 3 f fd ["given"] (spTakeWord K CW CG) := by
  refine D.F.ok scTakeWord (fun vs H Q E h => ?_) (fun cdv A outer s H vs Q E hr h => ?_)
  · obtain ⟨p, dx, a, _, _, _, _, _, _, _, _, _, rfl, _⟩ := h
    rfl
  · obtain ⟨g, a, j, cl, x, y, c, r0, r, sr, t, u, rfl, hG, hS, hd, hr1, hr2, k⟩ := h
    have q1 : Room 1 _ := hr.mono (by decide)
    have q2 : Room 2 _ := hr.mono (by decide)
    refine ⟨_, pss_cons (ps_set (i := 1) scTakeWord.nd rfl (Or.inl rfl) (pe_meth0 (pv 0) X.cl MN.m GN q1 MN.b .nil pass0)) (pss_cons (ps_set (i := 2) scTakeWord.nd rfl (Or.inl rfl) (pe_meth0 (pv 0) X.cl MN.m GN q1 MN.b .nil pass0)) (pss_cons (ps_set (i := 3) scTakeWord.nd rfl (Or.inl rfl) (pe_meth0 (pv 0) X.cl MN.m GN q1 MN.b .nil pass0))
      (pss_cons (ps_set (i := 4) scTakeWord.nd rfl (Or.inl rfl) (pe_meth0 (pv 0) X.cl MR.m GR q2 MR.b .nil pass0)) (pss_cons (ps_set (i := 5) scTakeWord.nd rfl (Or.inl rfl) (pe_meth0 (pv 0) X.cl MR.m GR q2 MR.b .nil pass0))
      (pss_one (ps_ret (pe_make W.M W.G q2 rfl T.gW W.b .nil pass0 (pa_cons (pv 4) (pa_cons (pv 5) (pa_cons (pv 1) (pa_cons (pv 2) (pa_cons (pv 3) pa_nil)))))))))))), ?_⟩
    refine take_number (K := K) rfl hG hS hd fun H1 b1 hG1 hS1 d1 => ?_
    refine take_number (K := K) rfl hG1 hS1 d1 fun H2 b2 hG2 hS2 d2 => ?_
    refine take_number (K := K) rfl hG2 hS2 d2 fun H3 b3 hG3 hS3 d3 => ?_
    refine take_row (K := K) rfl hG3 hS3 (by rw [d3]; exact hr1) fun p4 k4 H4 hp4 h4 b4 hG4 hS4 d4 => ?_
    refine take_row (K := K) rfl hG4 hS4 (by rw [d4]; exact hr2) fun p5 k5 H5 hp5 h5 b5 hG5 hS5 d5 => ?_
    have h45 : SqL K H5 p4 (nv r) := hG4.seq b5 (sq_of h4)
    refine ret_make (ea_cons (ev_var rfl) (ea_cons (ev_var rfl) (ea_cons (ev_var rfl) (ea_cons (ev_var rfl) (ea_cons (ev_var rfl) ea_nil))))) fun H6 e6 xw dx nx nd ne => ?_
    refine mk_word nx nd fun H7 e7 h7 => ?_
    have b05 := ((((b1.trans b2).trans b3).trans b4).trans b5)
    have e57 := e6.trans e7
    refine k xw k5 H7 (hG.fresh b05 hG5 (fresh_back e6 nx)) (wordAt_of (wd := ⟨r, t, x, y, c⟩) h7 (ex_l e57 h45) (ex_l e57 (sq_of h5))) (b05.post e57) (hG5.mono e57) d5
end
end So
/-! the table of code objects of the def that makes a lambda: it grows, all else stands -/
namespace So
open PySem PySem.Spec PyProof.Rows L2 Evl
open LamX (TabB TabS ExtN CodeO)
/-- the lambda's name -/
def lamQ : Str := "numbers_by_likelihood.<locals>.<lambda>"
theorem lamQ_is : ((("numbers_by_likelihood" : Str) ++ (".<locals>." : Str)) ++ ("<lambda>" : Str)) = lamQ := by decide +kernel
theorem sqn {K : PySem.W.Frag} {H H' : Hp} {a : Addr} {xs : List V} (e : ExtN H H') (h : SqL K H a xs) : SqL K H' a xs := by
  rcases h with h | h
  · rcases h with h | ⟨o, h⟩
    · exact .inl (.inl (e _ _ h (fun ps z => by cases z)))
    · exact .inl (.inr ⟨o, e _ _ h (fun ps z => by cases z)⟩)
  · exact .inr h
theorem ext_n {H H' : Hp} (e : Ex H H') : ExtN H H' := fun b o h _ => e b o h
theorem tab_ex {H H' : Hp} {P : Addr} {q : Str} (e : Ex H H') (t : TabS H P q) : TabS H' P q := t.ext e
theorem code_ne {c : Addr} {q : Str} {o : HO} (h : ∀ g, o ≠ .ext g) : CodeO c q ≠ o := fun z => by
  unfold CodeO at z
  exact h _ z.symm
/-- .. where what is no table and no code object changes -/
theorem tab_off {H H' : Hp} {P p : Addr} {q : Str} {o : HO} (e : ∀ b u, H b = some u → b ≠ p → H' b = some u) (hp : H p = some o) (n1 : ∀ ps, o ≠ .tbl ps) (n2 : ∀ g, o ≠ .ext g) (t : TabS H P q) : TabS H' P q := by
  obtain ⟨ps, h1, h2, h3⟩ := t
  refine ⟨ps, e _ _ h1 (ne_of h1 hp fun z => n1 ps z.symm), h2, fun pos cv hc => ?_⟩
  obtain ⟨c, e1, e2⟩ := h3 pos cv hc
  exact ⟨c, e1, e _ _ e2 (ne_of e2 hp (code_ne n2))⟩
theorem tab_but {H H' : Hp} {P p C dx : Addr} {q : Str} {fs : List (Str × V)} (b : ExB p H H') (hp : H p = some (.ins C dx fs)) (t : TabS H P q) : TabS H' P q :=
  tab_off b hp (fun ps z => by cases z) (fun g z => by cases z) t
theorem tab_upd {H : Hp} {P t : Addr} {q : Str} {xs : List V} {o : HO} (ht : H t = some (.lst xs)) (h : TabS H P q) : TabS (upd H t o) P q :=
  tab_off (fun b u e n => by rw [upd_ne n]; exact e) ht (fun ps z => by cases z) (fun g z => by cases z) h
theorem word_n {K : PySem.W.Frag} {CW : Addr} {H H' : Hp} {p : Addr} {w : Sy.Word} (e : ExtN H H') (h : WordAt K CW H p w) : WordAt K CW H' p w := by
  obtain ⟨dx, ra, ta, h1, h2, h3⟩ := h
  exact ⟨dx, ra, ta, e _ _ h1 (fun ps z => by cases z), sqn e h2, sqn e h3⟩
theorem words_n {K : PySem.W.Frag} {CW : Addr} {H H' : Hp} {ps : List (Addr × Sy.Word)} (e : ExtN H H') (h : WordsAt K CW H ps) : WordsAt K CW H' ps := fun p hp => word_n e (h p hp)
theorem lex_n {K : PySem.W.Frag} {CW CL : Addr} {H H' : Hp} {p wl : Addr} {wr : V} {L : List Sy.Word} (e : ExtN H H') (h : LexAt K CW CL H p L wl wr) : LexAt K CW CL H' p L wl wr := by
  obtain ⟨dx, ps, h1, h2, h3, h4, h5⟩ := h
  refine ⟨dx, ps, e _ _ h1 (fun ps z => by cases z), e _ _ h2 (fun ps z => by cases z), words_n e h3, h4, ?_⟩
  rcases h5 with h5 | ⟨t, h5, h6⟩
  · exact .inl h5
  · exact .inr ⟨t, h5, e _ _ h6 (fun ps z => by cases z)⟩
theorem given_n {CG : Addr} {H H' : Hp} {g a : Addr} {k : Nat} (e : ExtN H H') (h : GivenAt CG H g a k) : GivenAt CG H' g a k := by
  obtain ⟨dx, h1⟩ := h
  exact ⟨dx, e _ _ h1 (fun ps z => by cases z)⟩
end So
/-! words.py: answers, the loop over the calls -/
namespace So
open PySem PySem.Spec PyProof.Rows L2 Evl
open PySem.W (EachIs)
open LamX (TabS)
abbrev sAnswerOf : Stmt := top 86
abbrev sAnswers : Stmt := top 87
/-- lists that stood stand -/
def KeepL (H H' : Hp) : Prop := ∀ (b : Addr) (xs : List V), H b = some (.lst xs) → H' b = some (.lst xs)
theorem KeepL.of {H H' : Hp} (e : Ex H H') : KeepL H H' := fun b _ h => e b _ h
theorem KeepL.trans {H H1 H2 : Hp} (a : KeepL H H1) (b : KeepL H1 H2) : KeepL H H2 := fun c xs h => b c xs (a c xs h)
theorem GivenAt.keepL {CG : Addr} {H H' : Hp} {g a : Addr} {k : Nat} (h : GivenAt CG H g a k) (b : ExB g H H') : KeepL H H' := fun c xs hc => by
  obtain ⟨d, h1⟩ := h
  exact b.lst h1 hc
theorem LexAt.keepL {K : PySem.W.Frag} {CW CL : Addr} {H H' : Hp} {p wl : Addr} {wr : V} {L : List Sy.Word} (h : LexAt K CW CL H p L wl wr) (b : ExB p H H') : KeepL H H' := fun c xs hc => by
  obtain ⟨dx, ps, h1, _⟩ := h
  exact b.lst h1 hc
section
variable {P : Program} {w : World} {K : PySem.W.Frag} {mg : Str → Option Value} {base : Heap} {CW CL CG tP : Addr}
def spAnswerOf (K : PySem.W.Frag) (CW CL CG tP : Addr) : Sp := fun vs H Q _ => ∃ (g p a : Addr) (k : Nat) (cl l' : List Nat) (L : List Sy.Word) (wl : Addr) (wr : V) (x : SyC.Call), vs = [.ref g, .ref p] ∧ GivenAt CG H g a k ∧ SqL K H a (nv cl) ∧ cl.length ≤ 47000 ∧ LexAt K CW CL H p L wl wr ∧ Lex L ∧ TabS H tP lamQ ∧
  callN (cl.drop k) = some (x, l') ∧ BytesOk (cl.drop k) ∧
  ∀ (r : Addr) (k' : Nat) (H' : Hp) (wl' : Addr) (wr' : V), H r = none → H' r = some (.lst (iv (saysX L x))) → GivenAt CG H' g a k' → SqL K H' a (nv cl) → cl.drop k' = l' → LexAt K CW CL H' p (thenX L x) wl' wr' → Lx H wl wr wl' wr' → KeepL H H' → TabS H' tP lamQ → Q (.ref r) H'
/-- the first answer is of an empty lexicon: few numbers -/
theorem says_first (x : SyC.Call) : (saysX [] x).length ≤ 3 := by
  have row : ∀ (r : Sy.Text) (a : Sy.Ans) (x : SyC.Call), (LexNeutral.told x a).length ≤ 3 → (∀ z, (LexNeutral.told x (Sy.says z)).length ≤ 3) → (LexNeutral.told x (SyC.ofRow r a)).length ≤ 3 := by
    intro r a x h1 h2
    unfold SyC.ofRow
    split
    · exact h2 _
    · split
      · exact h2 _
      · exact h1
  have one : ∀ (x : SyC.Call) (z : Int), x ≠ .write → (LexNeutral.told x (Sy.says z)).length ≤ 3 := by
    intro x z hx
    cases x <;> first | exact absurd rfl hx | (show 1 ≤ 3; decide)
  cases x with
  | begin_ => show 1 ≤ 3; decide
  | read b =>
    show (LexNeutral.told (.read b) (if SyC.BYTES < b.length then (([] : List Sy.Word), Sy.says (-1)) else (match Sy.readWords b with
      | .error (i, k) => ([], Sy.tells (-2) (Sy.ints [i, k]))
      | .ok M => (M, Sy.says (M.length : Int)))).2).length ≤ 3
    split
    · show 1 ≤ 3; decide
    · split
      · show 3 ≤ 3; decide
      · show 1 ≤ 3; decide
  | write => show 1 ≤ 3; decide
  | count => show 1 ≤ 3; decide
  | put l r c t u =>
    have h := (put_x Lex.nil l r c t u).1
    rw [h]
    show 1 ≤ 3
    decide
  | drop i =>
    rw [(drop_x [] i).1]
    show 1 ≤ 3
    decide
  | get i => show 1 ≤ 3; decide
  | number r t =>
    show (LexNeutral.told (.number r t) (if SyC.ROW < t.length then Sy.says (-1) else SyC.ofRow r (if Sy.isText t = false then Sy.says (-3) else SyC.orNone (Sy.numberOfWord [] r t)))).length ≤ 3
    split
    · exact one _ _ (by intro z; cases z)
    · refine row _ _ _ ?_ fun z => one _ _ (by intro z; cases z)
      split
      · exact one _ _ (by intro z; cases z)
      · exact one _ _ (by intro z; cases z)
  | find r => exact row _ _ _ (by show 2 ≤ 3; decide) fun z => one _ _ (by intro z; cases z)
  | begins r =>
    refine row _ _ _ ?_ fun z => one _ _ (by intro z; cases z)
    have e : Sy.beginsHere [] r = [] := by
      unfold Sy.beginsHere
      have : (fun j : Nat => decide (0 < j) && decide (0 < Sy.manyOf [] (r.take j))) = fun _ => false := by
        funext j
        show (decide (0 < j) && decide (0 < 0)) = false
        simp
      rw [this]
      simp
    rw [e]
    show 1 ≤ 3
    decide
  | goes r => exact row _ _ _ (by show 2 ≤ 3; decide) fun z => one _ _ (by intro z; cases z)
  | likely r i => exact row _ _ _ (one _ _ (by intro z; cases z)) fun z => one _ _ (by intro z; cases z)
/-- rows of words, and the list that is told, are of another content -/
theorem row_off {out : List Int} {r : List Nat} (ho : ∀ n, out.head? = some n → n ≤ 3) (hr : r ≠ []) (hs : ∀ c ∈ r, 33 ≤ c) : nv r ≠ iv out := by
  intro z
  cases r with
  | nil => exact hr rfl
  | cons c r =>
    cases out with
    | nil => cases z
    | cons n out =>
      have h1 := ho n rfl
      have h2 := hs c List.mem_cons_self
      have h3 := (List.cons.inj z).1
      have h4 : (c : Int) = n := by injection h3
      omega
theorem sign_ge {c : Nat} (h : Sy.isSign c = true) : 33 ≤ c := by
  unfold Sy.isSign at h
  simp only [Bool.and_eq_true, decide_eq_true_eq] at h
  exact h.2.1
theorem ok_signs {wd : Sy.Word} (h : wd.ok = true) : (∀ c ∈ wd.reading, 33 ≤ c) ∧ ∀ c ∈ wd.text, 33 ≤ c := by
  unfold Sy.Word.ok at h
  simp only [Bool.and_eq_true, List.all_eq_true] at h
  exact ⟨fun c hc => sign_ge (h.2.2.2.1 c hc), fun c hc => sign_ge (h.2.2.2.2 c hc)⟩
/-- what is told changes, the lexicon stands -/
theorem LexAt.told {K : PySem.W.Frag} {CW CL : Addr} {H : Hp} {p wl t : Addr} {wr : V} {L : List Sy.Word} {out : List Int} {o : HO} (h : LexAt K CW CL H p L wl wr) (hL : Lex L) (ht : H t = some (.lst (iv out))) (ho : ∀ n, out.head? = some n → n ≤ 3) (n1 : wl ≠ t) (n2 : wr ≠ .ref t) : LexAt K CW CL (upd H t o) p L wl wr := by
  obtain ⟨dx, ps, h1, h2, h3, h4, h5⟩ := h
  refine ⟨dx, ps, ?_, ?_, fun u hu => ?_, h4, ?_⟩
  · rw [upd_ne (ne_of h1 ht (by intro z; cases z))]
    exact h1
  · rw [upd_ne n1]
    exact h2
  · have hok : u.2.ok = true := hL.ok u.2 (by rw [← h4]; exact List.mem_map.mpr ⟨u, hu, rfl⟩)
    obtain ⟨d, ra, ta, g1, g2, g3⟩ := h3 u hu
    have sg := ok_signs hok
    have ne := ok_ne hok
    refine ⟨d, ra, ta, ?_, sql_off ht (row_off ho ne.1 sg.1) g2, sql_off ht (row_off ho ne.2 sg.2) g3⟩
    rw [upd_ne (ne_of g1 ht (by intro z; cases z))]
    exact g1
  · rcases h5 with h5 | ⟨t2, h5, h6⟩
    · exact .inl h5
    · refine .inr ⟨t2, h5, ?_⟩
      rw [upd_ne (fun z => n2 (by rw [h5, z]))]
      exact h6
/-- o.m() as a test or value, where nothing changes -/
theorem ev_meth0 {σ : L2.St} {H : Hp} {te : TE} {C p dx : Addr} {m : Str} {sp : Sp} {E : XK} {fs : List (Str × V)} {z : V} (h : Ev te σ H (.ref p)) (hp : H p = some (.ins C dx fs)) (hn : fs.lookup m = none) (hs : ∀ H1, Ex H H1 → ∀ Q : VK, RetV z H1 Q → sp [.ref p] H1 Q E) : Ev (tMeth C m sp [] E te tNil) σ H z := fun H1 e Q q =>
  h H1 e _ fun H2 e2 => ⟨p, dx, fs, rfl, e2 _ _ (e _ _ hp), hn, hs H2 (e.trans e2) Q fun H3 e3 => q H3 (e2.trans e3)⟩
def spAnswers (K : PySem.W.Frag) (tP : Addr) : Sp := fun vs H Q _ => ∃ (a : Addr) (cl : List Nat), vs = [.ref a] ∧ SqL K H a (nv cl) ∧ cl.length ≤ 47000 ∧ PyWqaibk.answers_asked (zi cl) = true ∧ TabS H tP lamQ ∧
  ∀ (H' : Hp) (p : Addr), H' p = some (.lst (iv (PyWqaibk.answers (zi cl)))) → Q (.ref p) H'
theorem scAnswers : FnScope ["calls", "given", "lexicon", "told", "answer"] ["calls"] (defScope sAnswers) := ⟨rfl, rfl, rfl, by decide +kernel, rfl, by decide +kernel, by decide +kernel⟩
theorem ok_answers {j : Nat} {f f1 fg fl fh : Addr} {fd fd1 fdg fdl fdh : FuncData} (D : Dn K mg "answers" sAnswers ["calls"] f fd) (X : TxtG K mg CG) (Y : TxtX K mg CL)
    (MG : Mk K CG fg) (bG : Binds K fdg ["self", "numbers"] []) (GG : FnOk P w K mg base CX0 1 fg fdg ["self", "numbers"] (spGInit CG))
    (ML : Mk K CL fl) (bL : Binds K fdl ["self"] []) (GL : FnOk P w K mg base CX0 1 fl fdl ["self"] (spLInit CL))
    (MH : Mn K CG "has_more" "Given.has_more" sHasMore ["self"] fh fdh) (GH : FnOk P w K mg base CX0 1 fh fdh ["self"] (spHasMore K CG))
    (D1 : Dn K mg "answer_of" sAnswerOf ["given", "lexicon"] f1 fd1) (G1 : FnOk P w K mg base CX0 (j + 2) f1 fd1 ["given", "lexicon"] (spAnswerOf K CW CL CG tP)) :
    FnOk P w K mg base CX0 (j + 3) f fd ["calls"] (spAnswers K tP) := by
  refine D.F.ok scAnswers (fun vs H Q E h => ?_) (fun cdv A outer s H vs Q E hr h => ?_)
  · obtain ⟨a, cl, rfl, _⟩ := h
    rfl
  · obtain ⟨a, cl, rfl, hS, hle, hask, hT0, k⟩ := h
    have r1 : Room 1 _ := hr.mono (by omega)
    have r2 : Room 2 _ := hr.mono (by omega)
    refine ⟨_, pss_cons (ps_set (i := 1) scAnswers.nd rfl (Or.inl rfl) (pe_make MG GG r2 rfl X.gG bG .nil pass0 (pa_cons (pv 0) pa_nil))) (pss_cons (ps_set (i := 2) scAnswers.nd rfl (Or.inl rfl) (pe_make0 ML GL r2 rfl Y.gL bL .nil pass0)) (pss_cons (ps_set (i := 3) scAnswers.nd rfl (Or.inl rfl) (pe_lst pa_nil))
      (pss_cons (ps_while PassesOwn.never (pt_val (pe_meth0 (pv 1) X.cl MH.m GH r1 MH.b .nil pass0))
        (pss_cons (ps_set (i := 4) scAnswers.nd rfl (Or.inl rfl) (pe_call G1 hr rfl D1.g D1.kp D1.b .nil pass0 (pa_cons (pv 1) (pa_cons (pv 2) pa_nil))))
        (pss_cons (ps_expr (pe_bm PySem.F.plainAttrs_list PySem.F.slot_list_append PySem.F.type_list_append mt_append (pv 3) (pa_cons (pe_callB call_len_seq (by rfl) X.len PySem.boot_len (pa_cons (pv 4) pa_nil)) pa_nil)))
        (pss_one (ps_expr (pe_bm PySem.F.plainAttrs_list PySem.F.slot_list_extend PySem.F.type_list_extend mt_extend (pv 3) (pa_cons (pv 4) pa_nil)))))))
      (pss_one (ps_ret (pv 3)))))), ?_⟩
    obtain ⟨hrest, hshort⟩ := Rest.start hask
    refine asg_make (ea_cons (ev_var rfl) ea_nil) fun H1 e1 g dg ng nd ne => ?_
    refine ⟨g, dg, a, rfl, upd_same, fun H2 hG2 b2 => ⟨rfl, ?_⟩⟩
    have e02 : Ex H H2 := fun b o e => b2 b o (by rw [upd_ne (ne_of_none (e1 _ _ e) ng), upd_ne (ne_of_none (e1 _ _ e) nd)]; exact e1 _ _ e) (ne_of_none (e1 _ _ e) ng)
    -- lexicon = Lexicon()
    intro p dp np ndp nep
    refine ⟨p, dp, rfl, upd_same, fun H3 wl h3 hw3 b3 => ⟨rfl, ?_⟩⟩
    have e23 : Ex H2 H3 := fun b o e => b3 b o (by rw [upd_ne (ne_of_none e np), upd_ne (ne_of_none e ndp)]; exact e) (ne_of_none e np)
    have hL3 : LexAt K CW CL H3 p [] wl .non := ⟨dp, [], h3, hw3, (fun _ z => by cases z), rfl, .inl rfl⟩
    refine q_asgL ev_lst0 fun t H4 ht e4 h4 => ?_
    have ht0 : H t = none := fresh_back (e02.trans e23) ht
    have hat : a ≠ t ∨ ∀ H', SqL K H' a (nv cl) := by
      rcases id hS with (z | ⟨o, z⟩) | z
      · exact .inl (ne_of_none z ht0)
      · exact .inl (ne_of_none z ht0)
      · exact .inr fun _ => .inr z
    refine q_while (fun m σ' H' => ∃ (k : Nat) (L : List Sy.Word) (wl : Addr) (wr : V) (out ans : List Int) (v4 : Option V), m = cl.length - k ∧ σ' = [some (.ref a), some (.ref g), some (.ref p), some (.ref t), v4] ∧ GivenAt CG H' g a k ∧ SqL K H' a (nv cl) ∧ LexAt K CW CL H' p L wl wr ∧ Lex L ∧ wl ≠ t ∧ wr ≠ .ref t ∧ (out = [] → L = []) ∧ (∀ n, out.head? = some n → n ≤ 3) ∧
        H' t = some (.lst (iv out)) ∧ TabS H' tP lamQ ∧ Rest L (cl.drop k) ans ∧ PyWqaibk.answers (zi cl) = out ++ ans)
      (cl.length - 0) ⟨0, [], wl, .non, [], PyWqaibk.answers (zi cl), none, rfl, rfl, (hG2.mono e23).mono e4, ex_l ((e02.trans e23).trans e4) hS, hL3.mono e4, Lex.nil, ne_of_none hw3 ht, (fun z => nomatch z), fun _ => rfl, (fun n z => by cases z), h4, tab_ex ((e02.trans e23).trans e4) hT0, by rw [List.drop_zero]; exact hrest, rfl⟩ ?_
    rintro m σ' H' ⟨i, L, wl, wr, out, ans, v4, rfl, rfl, hG, hS', hL, hLx, nwl, nwr, hfst, hhd, htl, hTb, hR, hans⟩
    obtain ⟨dx, hg⟩ := id hG
    refine ⟨decide (i < cl.length), et_B (ev_meth0 (ev_var rfl) hg (gF_no _ _ (by decide +kernel) (by decide +kernel)) fun H5 e5 Q' hq => ⟨g, a, i, cl, rfl, hG.mono e5, ex_l e5 hS', hq⟩), fun hb H5 e5 => ?_, fun hb H5 e5 => ?_⟩
    · have hlt : i < cl.length := by simpa using hb
      have hne : cl.drop i ≠ [] := by
        intro z
        have := congrArg List.length z
        rw [List.length_drop] at this
        simp at this
        omega
      obtain ⟨x, l', ans', hc, ha, hR'⟩ := hR.step hne
      have hby := hR.bytes hne
      have hless := callN_less hc
      rw [List.length_drop] at hless
      have hx : ∀ b, x = .read b → b.length ≤ 65536 := fun b e => by
        have := hless.2 b e
        omega
      refine ⟨fun σ2 H2 => ∃ m', m' < cl.length - i ∧ ∃ (k : Nat) (L : List Sy.Word) (wl : Addr) (wr : V) (out ans : List Int) (v4 : Option V), m' = cl.length - k ∧ σ2 = [some (.ref a), some (.ref g), some (.ref p), some (.ref t), v4] ∧ GivenAt CG H2 g a k ∧ SqL K H2 a (nv cl) ∧ LexAt K CW CL H2 p L wl wr ∧ Lex L ∧ wl ≠ t ∧ wr ≠ .ref t ∧ (out = [] → L = []) ∧ (∀ n, out.head? = some n → n ≤ 3) ∧
        H2 t = some (.lst (iv out)) ∧ TabS H2 tP lamQ ∧ Rest L (cl.drop k) ans ∧ PyWqaibk.answers (zi cl) = out ++ ans, fun σ2 H2 h => h, ?_⟩
      refine ⟨_, rfl, _, rfl, g, p, a, i, cl, l', L, wl, wr, x, rfl, hG.mono e5, ex_l e5 hS', hle, hL.mono e5, hLx, tab_ex e5 hTb, hc, hby, fun r k' H6 wl' wr' hr6 hr6' hG6 hS6 hd6 hL6 hlx6 hk6 hT6 => ?_⟩
      have ht6 := hk6 _ _ (e5 _ _ htl)
      have ntr : t ≠ r := ne_of_none (e5 _ _ htl) hr6
      have lens := congrArg List.length hans
      rw [ha] at lens
      simp only [List.length_append, List.length_cons] at lens
      have hlenr := ev_len (K := K) (σ := [some (.ref a), some (.ref g), some (.ref p), some (.ref t), some (.ref r)]) (ta := tVar 4) (ev_var rfl) (sq_of hr6')
      rw [List.length_map] at hlenr
      refine q_appS (v := .int ((saysX L x).length : Int)) ht6 (ev_var rfl) hlenr (by rw [List.length_map]; exact Nat.lt_of_lt_of_le (by omega : _ < 10000001) (by decide)) fun H7 e7 => ?_
      have hr7 : upd H7 t (.lst (iv out ++ [.int ((saysX L x).length : Int)])) r = some (.lst (iv (saysX L x))) := by
        rw [upd_ne ntr.symm]
        exact e7 _ _ hr6'
      refine s_ext (b := r) upd_same (ev_var rfl) (ev_var rfl) hr7 (by rw [List.length_append, List.length_map, List.length_map, List.length_singleton]; exact Nat.le_trans (by omega : _ ≤ 10000000) (by decide)) fun H8 e8 => ?_
      have nwl' : wl' ≠ t := by
        rcases hlx6.l with z | z
        · rw [z]
          exact nwl
        · exact (ne_of_none (e5 _ _ htl) z).symm
      have nwr' : wr' ≠ .ref t := by
        rcases hlx6.r with z | z
        · rw [z]
          exact nwr
        · intro z2
          exact ne_of_none (e5 _ _ htl) (z t z2) rfl
      have hLx' := then_lex hLx x hx
      have hhd1 : ∀ n, (out ++ [((saysX L x).length : Int)]).head? = some n → n ≤ 3 := by
        intro n hn
        cases out with
        | nil =>
          have h0 := hfst rfl
          subst h0
          have h3 := says_first x
          have : n = ((saysX [] x).length : Int) := (Option.some.inj hn).symm
          omega
        | cons m o => exact hhd n hn
      have t8 : H8 t = some (.lst (iv out ++ [.int ((saysX L x).length : Int)])) := e8 _ _ upd_same
      have t8' : H8 t = some (.lst (iv (out ++ [((saysX L x).length : Int)]))) := by
        rw [t8]
        unfold iv
        rw [List.map_append]
        rfl
      have hL8 : LexAt K CW CL H8 p (thenX L x) wl' wr' := ((hL6.mono e7).told hLx' (e7 _ _ ht6) hhd nwl' nwr').mono e8
      have hL9 := hL8.told (o := .lst (iv out ++ [.int ((saysX L x).length : Int)] ++ iv (saysX L x))) hLx' t8' hhd1 nwl' nwr'
      have gne : ∀ {H : Hp} {ys : List V}, GivenAt CG H g a k' → H t = some (.lst ys) → g ≠ t := fun ⟨d, hd⟩ h => ne_of hd h (by intro z; cases z)
      have ngt := gne hG6 ht6
      refine ⟨cl.length - k', ?_, k', thenX L x, wl', wr', out ++ [((saysX L x).length : Int)] ++ saysX L x, ans', _, rfl, rfl, ?_, ?_, hL9, hLx', nwl', nwr', fun z => ?_, ?_, ?_, tab_upd t8 (tab_ex e8 (tab_upd (e7 _ _ ht6) (tab_ex e7 hT6))), by rw [hd6]; exact hR', ?_⟩
      · have h6 := congrArg List.length hd6
        rw [List.length_drop] at h6
        omega
      · obtain ⟨d6, hd6'⟩ := hG6
        refine ⟨d6, ?_⟩
        rw [upd_ne ngt]
        refine e8 _ _ ?_
        rw [upd_ne ngt]
        exact e7 _ _ hd6'
      · rcases hat with z | z
        · have off : ∀ {H : Hp} {o : HO}, SqL K H a (nv cl) → SqL K (upd H t o) a (nv cl) := fun {H o} h => by
            rcases h with (h | ⟨o', h⟩) | h
            · exact .inl (.inl (by rw [upd_ne z]; exact h))
            · exact .inl (.inr ⟨o', by rw [upd_ne z]; exact h⟩)
            · exact .inr h
          exact off (ex_l e8 (off (ex_l e7 hS6)))
        · exact z _
      · simp at z
      · intro n hn
        refine hhd1 n ?_
        rw [List.head?_append] at hn
        cases out with
        | nil => exact hn
        | cons m o => exact hn
      · rw [upd_same]
        unfold iv
        rw [List.map_append, List.map_append]
        rfl
      · rw [hans, ha]
        simp
    · have hge : cl.length ≤ i := by simpa using hb
      have hnil : cl.drop i = [] := List.drop_eq_nil_of_le hge
      rw [hnil] at hR
      have := hR.nil
      subst this
      rw [List.append_nil] at hans
      exact (ev_var rfl : Ev _ _ _ _) H5 (Ex.refl H5) _ fun H6 e6 => k H6 t (by rw [hans]; exact e6 _ _ (e5 _ _ htl))
end
end So
/-! words.py: answer_of, one branch each -/
namespace So
open PySem PySem.Spec PyProof.Rows L2 Evl
open PySem.W (EachIs)
open LamX (TabS)
/-- what is never come to -/
theorem ps_dead {X : Cx} {st : Stmt} : PS X st (fun _ _ _ => False) := ⟨fun _ _ _ _ _ _ h => h.elim⟩
/-- what stands while a call is taken: H0 is the heap at the def's start -/
structure Now (K : PySem.W.Frag) (CW CL CG tP : Addr) (H0 : Hp) (g a p wl : Addr) (wr : V) (cl : List Nat) (L : List Sy.Word) (k : Nat) (H : Hp) : Prop where
  b : ExB g H0 H
  G : GivenAt CG H g a k
  S : SqL K H a (nv cl)
  L : LexAt K CW CL H p L wl wr
  T : TabS H tP lamQ
section
variable {K : PySem.W.Frag} {CW CL CG tP : Addr} {H0 H H' : Hp} {g a p wl : Addr} {wr : V} {cl l' : List Nat} {L : List Sy.Word} {k k' k0 : Nat} {σ : L2.St} {D : Ends} {tu tz : TS} {Q : VK}
theorem Now.mono (N : Now K CW CL CG tP H0 g a p wl wr cl L k H) (e : Ex H H') : Now K CW CL CG tP H0 g a p wl wr cl L k H' := ⟨N.b.post e, N.G.mono e, ex_l e N.S, N.L.mono e, tab_ex e N.T⟩
/-- what is handed in is taken further -/
theorem Now.take (N : Now K CW CL CG tP H0 g a p wl wr cl L k H) (b : ExB g H H') (hG : GivenAt CG H' g a k') : Now K CW CL CG tP H0 g a p wl wr cl L k' H' := ⟨N.b.trans b, hG, N.G.seq b N.S, N.G.lex b N.L, let ⟨_, h⟩ := N.G; tab_but b h N.T⟩
/-- if call == m -/
theorem pick {n m i : Nat} (N : Now K CW CL CG tP H0 g a p wl wr cl L k H) (h2 : σ[i]? = some (some (.int (n : Int)))) (yes : n = m → ∀ H1, Now K CW CL CG tP H0 g a p wl wr cl L k H1 → tu { nx := tz D, rt := D.rt, bk := D.bk, ct := D.ct } σ H1) (no : n ≠ m → ∀ H1, Now K CW CL CG tP H0 g a p wl wr cl L k H1 → tz D σ H1) :
    tSeq (tIfS (tTest (tOp rEq (tVar i) (tC (.int (m : Int))))) tu tNext) tz D σ H := by
  refine q_when (b := decide (V.int (n : Int) = V.int (m : Int))) (et_test (ev_op (ev_var h2) ev_c (rv_eq rfl))) (fun hb H1 e1 => yes ?_ H1 (N.mono e1)) (fun hb H1 e1 => no ?_ H1 (N.mono e1))
  · have := of_decide_eq_true hb
    have h : (n : Int) = (m : Int) := by injection this
    omega
  · intro z
    subst z
    simp at hb
/-- a call's end -/
def AnsK (K : PySem.W.Frag) (CW CL CG tP : Addr) (H0 : Hp) (g a p wl : Addr) (wr : V) (cl l' : List Nat) (L : List Sy.Word) (x : SyC.Call) (Q : VK) : Prop :=
  ∀ (r : Addr) (k' : Nat) (H' : Hp) (wl' : Addr) (wr' : V), H0 r = none → H' r = some (.lst (iv (saysX L x))) → GivenAt CG H' g a k' → SqL K H' a (nv cl) → cl.drop k' = l' → LexAt K CW CL H' p (thenX L x) wl' wr' → Lx H0 wl wr wl' wr' → KeepL H0 H' → TabS H' tP lamQ → Q (.ref r) H'
theorem Now.done {x : SyC.Call} (N : Now K CW CL CG tP H0 g a p wl wr cl L k H) (hG0 : GivenAt CG H0 g a k0) (hd : cl.drop k = l') (K' : AnsK K CW CL CG tP H0 g a p wl wr cl l' L x Q) : RetX K CW CL p (saysX L x) (thenX L x) wl wr H Q := by
  intro r H' wl' wr' hr hr' hb hL' hlx
  obtain ⟨dx, ps, hp, _⟩ := id N.L
  refine K' r k H' wl' wr' (hG0.fresh N.b N.G hr) hr' (N.G.but hb hp) (hb.seq hp N.S) hd hL' ⟨?_, ?_⟩ ((hG0.keepL N.b).trans (N.L.keepL hb)) (tab_but hb hp N.T)
  · rcases hlx.l with z | z
    · exact .inl z
    · exact .inr (hG0.fresh N.b N.G z)
  · rcases hlx.r with z | z
    · exact .inl z
    · exact .inr fun t ht => hG0.fresh N.b N.G (z t ht)
/-- given.take_number() as a value -/
theorem number_of {n i : Nat} {t : List Nat} (N : Now K CW CL CG tP H0 g a p wl wr cl L k H) (h0 : σ[i]? = some (some (.ref g))) (hd : cl.drop k = n :: t)
    (go : ∀ H', Now K CW CL CG tP H0 g a p wl wr cl L (k + 1) H' → cl.drop (k + 1) = t → Q (.int (n : Int)) H') : tMeth CG "take_number" (spTakeN K CG) [] E0 (tVar i) tNil σ H Q := by
  obtain ⟨dx, hg⟩ := id N.G
  obtain ⟨u1, u2, u3⟩ := drop_front hd
  exact ⟨_, h0, g, dx, _, rfl, hg, gF_no _ _ (by decide +kernel) (by decide +kernel), g, a, k, cl, n, rfl, N.G, N.S, u1, fun H' b hG' => go H' (N.take b hG') u2⟩
/-- given.take_row() as a value -/
theorem row_of {i : Nat} {r s : List Nat} (N : Now K CW CL CG tP H0 g a p wl wr cl L k H) (h0 : σ[i]? = some (some (.ref g))) (hd : rowN (cl.drop k) = some (r, s))
    (go : ∀ q k' H', H' q = some (.lst (nv r)) → Now K CW CL CG tP H0 g a p wl wr cl L k' H' → cl.drop k' = s → Q (.ref q) H') : tMeth CG "take_row" (spTakeRow K CG) [] E0 (tVar i) tNil σ H Q := by
  obtain ⟨dx, hg⟩ := id N.G
  exact ⟨_, h0, g, dx, _, rfl, hg, gF_no _ _ (by decide +kernel) (by decide +kernel), g, a, k, cl, r, s, rfl, N.G, N.S, hd, fun q k' H' hq h1 b hG' hd' => go q k' H' h1 (N.take b hG') hd'⟩
/-- lexicon.m(..) -/
theorem lex_meth {i : Nat} {m : Str} {sp : Sp} {E : XK} {ta : TA} (N : Now K CW CL CG tP H0 g a p wl wr cl L k H) (h1 : σ[i]? = some (some (.ref p))) (m1 : (m == ("words" : Str)) = false) (m2 : (m == ("written" : Str)) = false)
    (go : ta σ H fun vs H1 => sp ((.ref p :: vs) ++ []) H1 Q E) : tMeth CL m sp [] E (tVar i) ta σ H Q := by
  obtain ⟨dx, ps, hp, _⟩ := id N.L
  exact ⟨_, h1, p, dx, _, rfl, hp, lF_no _ _ m1 m2, go⟩
end
end So
/-! words.py: answer_of, the calls of the first stage -/
namespace So
open PySem PySem.Spec PyProof.Rows L2 Evl
open PySem.W (EachIs)
structure TxtA (mg : Str → Option Value) : Prop where
  n1 : IntC mg "BEGIN" 1
  n2 : IntC mg "READ" 2
  n3 : IntC mg "WRITE" 3
  n4 : IntC mg "COUNT" 4
  n5 : IntC mg "PUT" 5
  n6 : IntC mg "DROP" 6
section
variable {K : PySem.W.Frag} {CW CL CG tP : Addr} {H0 H : Hp} {g a p wl : Addr} {wr : V} {cl l' r0 : List Nat} {L : List Sy.Word} {k k0 : Nat} {σ : L2.St} {D : Ends} {Q : VK} {x : SyC.Call}
theorem br_begin {E : XK} (N : Now K CW CL CG tP H0 g a p wl wr cl L k H) (hG0 : GivenAt CG H0 g a k0) (h1 : σ[1]? = some (some (.ref p))) (hd : cl.drop k = r0) (hc : callN (1 :: r0) = some (x, l')) (K' : AnsK K CW CL CG tP H0 g a p wl wr cl l' L x D.rt) :
    tRet (tMeth CL "begin" (spBegin K CW CL) [] E (tVar 1) tNil) D σ H := by
  cases hc
  have e := N.done hG0 hd K'
  rw [(begin_x L).1, (begin_x L).2] at e
  exact ret_raw (lex_meth N h1 (by decide +kernel) (by decide +kernel) ⟨p, L, wl, wr, rfl, N.L, e⟩)
theorem br_write {E : XK} (hL : Lex L) (N : Now K CW CL CG tP H0 g a p wl wr cl L k H) (hG0 : GivenAt CG H0 g a k0) (h1 : σ[1]? = some (some (.ref p))) (hd : cl.drop k = r0) (hc : callN (3 :: r0) = some (x, l')) (K' : AnsK K CW CL CG tP H0 g a p wl wr cl l' L x D.rt) :
    tRet (tMeth CL "write" (spWrite K CW CL) [] E (tVar 1) tNil) D σ H := by
  cases hc
  have e := N.done hG0 hd K'
  rw [(write_x hL.ok).1, (write_x hL.ok).2] at e
  exact ret_raw (lex_meth N h1 (by decide +kernel) (by decide +kernel) ⟨p, L, wl, wr, rfl, N.L, hL.ok, by have := hL.few; omega, e⟩)
theorem br_count {E : XK} (N : Now K CW CL CG tP H0 g a p wl wr cl L k H) (hG0 : GivenAt CG H0 g a k0) (h1 : σ[1]? = some (some (.ref p))) (hd : cl.drop k = r0) (hc : callN (4 :: r0) = some (x, l')) (K' : AnsK K CW CL CG tP H0 g a p wl wr cl l' L x D.rt) :
    tRet (tMeth CL "count" (spCount K CW CL) [] E (tVar 1) tNil) D σ H := by
  cases hc
  have e := N.done hG0 hd K'
  rw [(count_x L).1, (count_x L).2] at e
  exact ret_raw (lex_meth N h1 (by decide +kernel) (by decide +kernel) ⟨p, L, wl, wr, rfl, N.L, e⟩)
theorem br_drop {E : XK} (hL : Lex L) (N : Now K CW CL CG tP H0 g a p wl wr cl L k H) (hG0 : GivenAt CG H0 g a k0) (h0 : σ[0]? = some (some (.ref g))) (h1 : σ[1]? = some (some (.ref p))) (hd : cl.drop k = r0) (hc : callN (6 :: r0) = some (x, l')) (K' : AnsK K CW CL CG tP H0 g a p wl wr cl l' L x D.rt) :
    tRet (tMeth CL "drop" (spDrop K CW CL) [] E (tVar 1) (tCons (tMeth CG "take_number" (spTakeN K CG) [] E0 (tVar 0) tNil) tNil)) D σ H := by
  cases r0 with
  | nil => cases hc
  | cons i r =>
    cases hc
    refine ret_raw (lex_meth N h1 (by decide +kernel) (by decide +kernel) (number_of N h0 hd fun H1 N1 d1 => ?_))
    have e := N1.done hG0 d1 K'
    rw [(drop_x L i).1, (drop_x L i).2] at e
    exact ⟨p, L, wl, wr, i, rfl, N1.L, by have := hL.few; omega, e⟩
theorem br_read {E : XK} (hN : cl.length ≤ 47000) (N : Now K CW CL CG tP H0 g a p wl wr cl L k H) (hG0 : GivenAt CG H0 g a k0) (h0 : σ[0]? = some (some (.ref g))) (h1 : σ[1]? = some (some (.ref p))) (hd : cl.drop k = r0) (hb : BytesOk (2 :: r0)) (hc : callN (2 :: r0) = some (x, l')) (K' : AnsK K CW CL CG tP H0 g a p wl wr cl l' L x D.rt) :
    tRet (tMeth CL "read" (spRead K CW CL) [] E (tVar 1) (tCons (tMeth CG "take_row" (spTakeRow K CG) [] E0 (tVar 0) tNil) tNil)) D σ H := by
  have hc' : (rowN r0).map (fun q => (SyC.Call.read (q.1.map UInt8.ofNat), q.2)) = some (x, l') := hc
  obtain ⟨⟨t, s⟩, hr, e⟩ := map_some2 hc'
  cases e
  have hby := hb r0 t s rfl hr
  have hlen := (rowN_less hr).1
  have h47 := congrArg List.length hd
  rw [List.length_drop] at h47
  have ht : t.length ≤ 47000 := by omega
  have hbl : (t.map UInt8.ofNat).length ≤ 65536 := by rw [List.length_map]; omega
  refine ret_raw (lex_meth N h1 (by decide +kernel) (by decide +kernel) (row_of N h0 (by rw [hd]; exact hr) fun q k1 H1 hq N1 d1 => ?_))
  have ee := N1.done hG0 d1 K'
  refine ⟨p, q, L, wl, wr, t, rfl, N1.L, sq_of hq, hby, by omega, ?_⟩
  have hbn : bytesN (t.map UInt8.ofNat) = t := bytesN_ofNat hby
  cases hrd : readLines 0 (linesOf t) [] with
  | error f =>
    obtain ⟨i, j⟩ := f
    have h := read_err (L := L) (b := t.map UInt8.ofNat) hbl (by rw [hbn]; exact hrd)
    rw [h.1, h.2] at ee
    exact ee
  | ok ws =>
    have h := read_ok (L := L) (b := t.map UInt8.ofNat) hbl (by rw [hbn]; exact hrd)
    intro M hM hP
    have eM : thenX L (.read (t.map UInt8.ofNat)) = M := (sorted_is ⟨h.1, h.2.2.2⟩ hM hP).symm
    rw [h.2.2.1, eM] at ee
    exact ee
theorem br_put {E : XK} (hN : cl.length ≤ 47000) (hL : Lex L) (N : Now K CW CL CG tP H0 g a p wl wr cl L k H) (hG0 : GivenAt CG H0 g a k0) (h0 : σ[0]? = some (some (.ref g))) (h1 : σ[1]? = some (some (.ref p))) (hd : cl.drop k = r0) (hc : callN (5 :: r0) = some (x, l')) (K' : AnsK K CW CL CG tP H0 g a p wl wr cl l' L x D.rt) :
    tRet (tMeth CL "put" (spPut K CW CL) [] E (tVar 1) (tCons (tCall (spTakeWord K CW CG) [] E0 (tCons (tVar 0) tNil)) tNil)) D σ H := by
  have h47 := congrArg List.length hd
  rw [List.length_drop] at h47
  match r0, hc, hd with
  | [], hc, _ => cases hc
  | [_], hc, _ => cases hc
  | [_, _], hc, _ => cases hc
  | y :: z :: c :: r1, hc, hd =>
    have hc' : ((rowN r1).bind fun q => (rowN q.2).map fun u => (SyC.Call.put y z c q.1 u.1, u.2)) = some (x, l') := hc
    obtain ⟨⟨r, s⟩, hr, e⟩ := Option.bind_eq_some_iff.mp hc'
    obtain ⟨⟨t, u⟩, ht, e⟩ := map_some2 e
    cases e
    have n1 := rowN_less hr
    have n2 := rowN_less (l := s) ht
    simp only [List.length_cons] at h47
    refine ret_raw (lex_meth N h1 (by decide +kernel) (by decide +kernel) ⟨_, h0, g, a, k, cl, y, z, c, r1, r, s, t, u, rfl, N.G, N.S, hd, hr, ht, fun q k1 H1 hq hW b hG1 d1 => ?_⟩)
    have N1 := N.take b hG1
    have ee := N1.done hG0 d1 K'
    rw [(put_x hL y z c r t).1, (put_x hL y z c r t).2] at ee
    exact ⟨p, q, L, wl, wr, ⟨r, t, y, z, c⟩, rfl, N1.L, hW, sz_ok (by show r.length ≤ _; omega), sz_ok (by show t.length ≤ _; omega), by have := hL.few; omega, ee⟩
end
/-! what is handed in, as numbers of 0 or more -/
theorem zi_back {l : List Int} (h : ∀ z ∈ l, 0 ≤ z) : zi (l.map Int.toNat) = l := by
  unfold zi
  rw [List.map_map]
  conv => rhs; rw [← List.map_id l]
  exact List.map_congr_left fun z hz => Int.toNat_of_nonneg (h z hz)
theorem nv_zi (l : List Nat) : nv l = (zi l).map V.int := by
  unfold nv zi
  rw [List.map_map]
  rfl
theorem int_ge {m z : Int} (h : PySem.W.Codec.inInt 0 m z = true) : 0 ≤ z := (PySem.W.Codec.inInt_iff.mp h).1
end So
/-! rows of numbers: ==, <, slices, for the calls of the second stage -/
namespace So
open PySem PySem.Spec PyProof.Rows L2 Evl
open PySem.W (EachIs)
theorem op_eqDK {X : Cx} {K : PySem.W.Frag} (hK : X.K = K) (hu : X.A.units + 64 < cLine) : OpR X (compareOp .Eq) (rEqD K) := by
  subst hK
  exact op_eqD hu
section
variable {K : PySem.W.Frag} {σ : L2.St} {H : Hp} {ta tb : TE} {a b : Addr} {r t : List Nat}
theorem rv_ltRow (ha : SqL K H a (nv r)) (hb : SqL K H b (nv t)) : RV (rLtD K) (.ref a) (.ref b) H (.bl (Sy.before r t)) := fun H1 e Q q =>
  ⟨rowD r, rowD t, dp_row (ex_l e ha), dp_row (ex_l e hb), alike_row r t, (by intro z; cases z), by rw [depth_row]; decide, by rw [dataLt_row]; exact q H1 (Ex.refl H1)⟩
/-- a new row == a standing one -/
theorem ev_eqNew (ha : EvL ta σ H (nv r)) (hb : Ev tb σ H (.ref b)) (hB : SqL K H b (nv t)) : Ev (tOp (rEqD K) ta tb) σ H (.bl (r == t)) := fun H1 e Q q =>
  ha H1 e _ fun l H2 _ e2 hl => hb H2 (e.trans e2) _ fun H3 e3 => ⟨rowD r, rowD t, dp_row (sq_of (e3 _ _ hl)), dp_row (ex_l ((e.trans e2).trans e3) hB), shaped_row r, shaped_row t, by rw [eqv_row]; exact q H3 (e2.trans e3)⟩
/-- a standing row == a new one -/
theorem ev_eqNew2 (ha : Ev ta σ H (.ref a)) (hA : SqL K H a (nv r)) (hb : EvL tb σ H (nv t)) : Ev (tOp (rEqD K) ta tb) σ H (.bl (r == t)) := fun H1 e Q q =>
  ha H1 e _ fun H2 e2 => hb H2 (e.trans e2) _ fun l H3 _ e3 hl => ⟨rowD r, rowD t, dp_row (ex_l ((e.trans e2).trans e3) hA), dp_row (sq_of hl), shaped_row r, shaped_row t, by rw [eqv_row]; exact q H3 (e2.trans e3)⟩
/-- row[:n], whatever the n -/
theorem cut_takeAny {xs : List V} (hi : Nat) : cutV xs none (some (hi : Int)) = xs.take hi := by
  unfold cutV
  have e1 : HT.sIx xs.length 0 none = 0 := rfl
  have e2 : HT.sIx xs.length xs.length (some (hi : Int)) = min hi xs.length := by
    rw [HT.sIx_nat]
  rw [e1, e2]
  simp
theorem el_front {th : TO} {n : Nat} (ha : Ev ta σ H (.ref a)) (hA : SqL K H a (nv r)) (hh : EvO th σ H (some (n : Int))) : EvL (tSl (rSlL K) ta tNoPart th) σ H (nv (r.take n)) := by
  have s := el_sl (K := K) (te := ta) (tl := tNoPart) (th := th) (H := H) ha eo_none hh hA
  rw [cut_takeAny] at s
  have e : (nv r).take n = nv (r.take n) := (List.map_take ..).symm
  rw [e] at s
  exact s
end
end So
/-! rules.py and asked.py, what the second stage brought (but for the order by likelihood and the lengths) -/
namespace So
open PySem PySem.Spec PyProof.Rows L2 Evl
open PySem.W (EachIs)
abbrev sAllChar : Stmt := top 12
abbrev sLikeOrder : Stmt := top 19
abbrev sHasBeg : Stmt := top 21
abbrev sCountBefore : Stmt := top 22
abbrev sCountReading : Stmt := top 23
abbrev sNumsGoing : Stmt := top 24
section
variable {K : PySem.W.Frag} {σ : L2.St} {H : Hp} {ta tb te tl : TE} {t : TT}
/-- [e for i, x in enumerate(xs) if t], by the items' places -/
theorem el_compE {a : Addr} {xs : List V} {j1 j2 : Nat} {vs : List Nat} (f : Nat → Bool) (v : Nat → V) (h : Ev tl σ H (.ref a)) (hx : SqL K H a xs) (hz : xs.length ≤ 40000) (hw : ∀ x y, wipe (((wipe σ vs).set j1 (some x)).set j2 (some y)) vs = wipe σ vs)
    (ht : ∀ (i : Nat) (x : V) H1, Ex H H1 → xs[i]? = some x → EvT t (((wipe σ vs).set j1 (some (.int (i : Int)))).set j2 (some x)) H1 (f i))
    (he : ∀ (i : Nat) (x : V) H1, Ex H H1 → xs[i]? = some x → f i = true → Ev te (((wipe σ vs).set j1 (some (.int (i : Int)))).set j2 (some x)) H1 (v i)) :
    EvL (tLc (iEnum K (tCons tl tNil)) (gTup K 2 (gCons (gName j1) (gCons (gName j2) gNil))) t te vs) σ H (given xs.length f v) := by
  refine fun H0 e Q q => h H0 e _ fun H1 e1 => ⟨a, xs, rfl, ex_l (e.trans e1) hx, fun Dl hD => ⟨fun i m H' => i ≤ xs.length ∧ m = xs.length - i ∧ Cw H1 f v Dl i H', ⟨_, Nat.zero_le _, rfl, hD, Ex.new hD, upd_same⟩, ?_⟩⟩
  rintro i m H' ⟨hi, rfl, q1, q2, q3⟩
  have hsq := ex_l ((e.trans e1).trans q2) hx
  rcases Nat.lt_or_eq_of_le hi with hlt | rfl
  · refine .inr ⟨⟨xs, xs[i], hsq, by simp [hlt]⟩, Cw H1 f v Dl (i + 1), fun H'' p' => ⟨xs.length - (i + 1), by omega, hlt, rfl, p'⟩, ?_⟩
    rintro x H'' ⟨T, y, rfl, hT, rfl, hy⟩
    have hiy := hy xs hsq
    refine ⟨T, _, rfl, st_of upd_same, rfl, _, _, rfl, _, _, rfl, rfl, hw _ _, ?_⟩
    exact cw_turn ⟨q1, q2.trans (Ex.new hT), Ex.new hT _ _ q3⟩ (by omega) (ht i y H1 (e.trans e1) hiy) (fun hf => he i y H1 (e.trans e1) hiy hf)
  · exact .inl ⟨⟨xs, hsq, Nat.le_refl _⟩, q Dl H' (fresh_back e1 q1) (e1.trans q2) q3⟩
/-- a field within a comprehension's block -/
theorem pe_fldK {X : Cx} {e : Expr} {f : Str} {pos : Pos} (hK : X.K = K) (he : PE X e ta) (hb : attributeBase e f X.env (eval e X.env) = eval e X.env) : PE X (.Attribute e f pos) (tFld K ta f) := by
  subst hK
  exact pe_fld he hb
theorem pg_tupK {X : Cx} {es : List Expr} {k : Nat} {u : TGs} {n : Nat} {pos : Pos} (hK : X.K = K) (hc : X.calm = true) (h : PGs X es u)
    (hn : (assignEach es X.env).length = n := by rfl) (hst : (assignEach es X.env).findIdx? (·.1) = none := by rfl) : PG X (.Tuple es k pos) (gTup K n u) := by
  subst hK
  exact pg_tup hc h hn hst
/-- xs[i], as += reads it -/
theorem pget_list {X : Cx} : PGet X (rIxL X.K) := by
  intro pins s σ H o i ov iv Q I ro ri h
  obtain ⟨p, xs, k, z, rfl, rfl, hq, he, q⟩ := h
  cases ro
  obtain ⟨t, rfl⟩ := ri
  obtain ⟨its, r, pl, hz⟩ := I.list hq
  obtain ⟨j, h1, h2, h3, h4, h5⟩ := atI_get he
  obtain ⟨w, ew, rw'⟩ := r.get h2
  have hl := r.length
  have hn := line63
  by_cases h0 : 0 ≤ k
  · have hj : k.toNat = j := by
      rw [seqIndex_of h0 h5] at h1
      exact Option.some.inj h1
    exact wpAny_getItem_list pl.isList h0 (by omega) (by rw [hj]; simpa using ew) ⟨z, H, I, rw', q⟩
  · have hj : (k + (its.toArray.size : Int)).toNat = j := by
      rw [seqIndex_neg (by omega) h4] at h1
      rw [List.size_toArray, ← hl]
      exact Option.some.inj h1
    exact wpAny_getItem_list_neg pl.isList (by omega) (by rw [List.size_toArray] <;> omega) (by omega) (by rw [hj]; simpa using ew) ⟨z, H, I, rw', q⟩
end
section
variable {P : Program} {w : World} {K : PySem.W.Frag} {mg : Str → Option Value} {base : Heap} {CW : Addr}
/-! all_characters -/
theorem scAllChar : FnScope ["row", "number"] ["row"] (defScope sAllChar) := ⟨rfl, rfl, rfl, by decide +kernel, rfl, by decide +kernel, by decide +kernel⟩
theorem ok_allChar {f f1 : Addr} {fd fd1 : FuncData} (D : Dn K mg "all_characters" sAllChar ["row"] f fd) (T : TxtR K mg CW) (D1 : Dn K mg "is_character" sIsChar ["number"] f1 fd1) (G1 : FnOk P w K mg base CX0 1 f1 fd1 ["number"] spIsChar) :
    FnOk P w K mg base CX0 2 f fd ["row"] (spRow K Sy.isText) := by
  refine D.F.ok scAllChar (fun vs H Q E h => ?_) (fun cdv A outer s H vs Q E hr h => ?_)
  · obtain ⟨a, r, rfl, _⟩ := h
    rfl
  · obtain ⟨a, r, rfl, hS, hl, k⟩ := h
    have hr1 : Room 1 _ := hr.mono (by decide)
    refine ⟨_, pss_one (ps_ret (pe_callB (cr_all rfl) (by rfl) T.all (by decide +kernel) (pa_cons (pe_lc (own := [("number", 1)]) (g := gName 1) (tt := tYes) rfl scAllChar.nd (pi_list (pv 0)) (blkOk_by (N := ["row", "number"]) (sc := defScope sAllChar) (by decide +kernel))
      (fun _ _ _ _ _ => pg_name (i := 1) scAllChar.nd rfl (Or.inl rfl)) (fun _ _ _ _ _ => pts_nil) (fun _ _ _ _ _ => pe_call G1 hr1 rfl D1.g D1.kp D1.b .nil pass0 (pa_cons (pv 1) pa_nil))) pa_nil))), ?_⟩
    have c := el_comp (K := K) (xs := nv r) (a := a) (σ := start ["row", "number"] [V.ref a]) (H := H) (j := 1) (vs := [1]) (tl := tVar 0) (t := tYes) (te := tCall spIsChar [] (fun _ _ _ => False) (tCons (tVar 1) tNil)) (fun _ => true) (fun x => .bl (Sy.isChar (natOf x))) (ev_var rfl) hS (by rw [nv_length]; exact hl) (fun x => rfl)
      (fun x H1 _ _ => et_yes) (fun x H1 e1 hx _ => by
        obtain ⟨n, _, rfl⟩ := nv_mem hx
        exact call1 (ev_var rfl) fun H2 e2 Q h E => ⟨n, rfl, h⟩)
    rw [filter_true, nv_map r fun n => V.bl (Sy.isChar n)] at c
    have c2 := ev_all (K := K) (bs := r.map Sy.isChar) (by rw [List.map_map]; exact c)
    rw [all_map] at c2
    exact c2 H (Ex.refl H) _ fun H1 e1 => k H1 e1
/-! likely_order_of -/
def likeD (a : Sy.Word) : PyData := .tuple [.int (a.cost : Int), rowD a.reading, rowD a.text]
theorem alike_like (a b : Sy.Word) : PySem.W.alike (likeD a) (likeD b) = true := by
  unfold likeD
  simp [PySem.W.alike, PySem.W.alikeAll, alike_row]
theorem depth_like (a : Sy.Word) : (likeD a).depth = 2 := by
  unfold likeD
  simp [PyData.depth, PyData.depthAll, depth_row]
theorem dataLt_like (a b : Sy.Word) : PySem.W.dataLt (likeD a) (likeD b) = likeLt a b := by
  unfold likeD
  rw [PySem.W.dataLt_tuple, PySem.W.dataLt_cons (by simp [PySem.W.alike]), PySem.W.dataLt_cons (alike_row _ _), PySem.W.dataLt_cons (alike_row _ _), eqv_row, eqv_row, dataLt_row, dataLt_row, PySem.W.dataLt_int]
  have e0 : PyProof.Rows.lexLt PyProof.Rows.itemOrd (PySem.W.keyToksAll []) (PySem.W.keyToksAll []) = false := PyProof.Rows.lex_irrefl _
  rw [e0]
  unfold likeLt
  rw [Bool.eq_iff_iff]
  by_cases h1 : a.cost = b.cost
  · by_cases h2 : a.reading = b.reading
    · by_cases h3 : a.text = b.text
      · simp [PyData.eqv, h1, h2, h3, bef_irr]
      · simp [PyData.eqv, h1, h2, h3, bef_irr]
    · simp [PyData.eqv, h1, h2]
  · have : ¬ ((a.cost : Int) = (b.cost : Int)) := by omega
    simp [PyData.eqv, h1]
    intro z
    exact absurd z this
def spLike (K : PySem.W.Frag) (CW : Addr) : Sp := fun vs H Q _ => ∃ (p : Addr) (a : Sy.Word), vs = [.ref p] ∧ WordAt K CW H p a ∧ ∀ y H2, Ex H H2 → Dp K H2 y (likeD a) → Q y H2
theorem scLike : FnScope ["word"] ["word"] (defScope sLikeOrder) := ⟨rfl, rfl, rfl, by decide +kernel, rfl, by decide +kernel, by decide +kernel⟩
theorem ok_like {f : Addr} {fd : FuncData} (D : Dn K mg "likely_order_of" sLikeOrder ["word"] f fd) (T : TxtR K mg CW) : FnOk P w K mg base CX0 1 f fd ["word"] (spLike K CW) := by
  refine D.F.ok scLike (fun vs H Q E h => ?_) (fun cdv A outer s H vs Q E hr h => ?_)
  · obtain ⟨a, r, rfl, _⟩ := h
    rfl
  · obtain ⟨p, a, rfl, hA, k⟩ := h
    refine ⟨_, pss_one (ps_ret (pe_tup (pa_cons (pe_fld (pv 0) rfl) (pa_cons (pe_fld (pv 0) rfl) (pa_cons (pe_fld (pv 0) rfl) pa_nil))))), ?_⟩
    obtain ⟨d1, r1, t1, g1, hR1, hT1⟩ := hA
    have c : EvU (tTup (tCons (tFld K (tVar 0) "cost") (tCons (tFld K (tVar 0) "reading") (tCons (tFld K (tVar 0) "text") tNil)))) (start ["word"] [V.ref p]) H [.int (a.cost : Int), .ref r1, .ref t1] :=
      eu_tup (ea_cons (ev_fld (ev_var rfl) g1 T.cl T.nC (wF_cost _ _ _)) (ea_cons (ev_fld (ev_var rfl) g1 T.cl T.nR (wF_reading _ _ _)) (ea_cons (ev_fld (ev_var rfl) g1 T.cl T.nT (wF_text _ _ _)) ea_nil))) (by show 3 ≤ 100000; decide)
    exact c H (Ex.refl H) _ fun y H1 hy e1 h1 => k (.ref y) H1 e1 (.tup (st_of h1) (.cons (.int _) (.cons (dp_row (ex_l e1 hR1)) (.cons (dp_row (ex_l e1 hT1)) .nil))))
/-! has_beginning -/
def spHasBeg (K : PySem.W.Frag) : Sp := fun vs H Q _ => ∃ (a b : Addr) (r t : List Nat), vs = [.ref a, .ref b] ∧ SqL K H a (nv r) ∧ SqL K H b (nv t) ∧ RetV (.bl (t.isPrefixOf r)) H Q
theorem scHasBeg : FnScope ["row", "beginning"] ["row", "beginning"] (defScope sHasBeg) := ⟨rfl, rfl, rfl, by decide +kernel, rfl, by decide +kernel, by decide +kernel⟩
theorem ok_hasBeg {f : Addr} {fd : FuncData} (D : Dn K mg "has_beginning" sHasBeg ["row", "beginning"] f fd) (T : TxtR K mg CW) : FnOk P w K mg base CX0 1 f fd ["row", "beginning"] (spHasBeg K) := by
  refine D.F.ok scHasBeg (fun vs H Q E h => ?_) (fun cdv A outer s H vs Q E hr h => ?_)
  · obtain ⟨a, b, r, t, rfl, _⟩ := h
    rfl
  · obtain ⟨a, b, r, t, rfl, hA, hB, k⟩ := h
    refine ⟨_, pss_one (ps_ret (pe_cmpR (op_eqDK (K := K) rfl hr.units) (pe_slice sl_list (pv 0) po_none (po_some (pe_callB call_len_seq (by rfl) T.len PySem.boot_len (pa_cons (pv 1) pa_nil)))) (pv 1) (nomark _))), ?_⟩
    have fr := el_front (K := K) (σ := start ["row", "beginning"] [V.ref a, V.ref b]) (H := H) (ta := tVar 0) (n := (nv t).length) (ev_var rfl) hA (eo_some (ev_len (ta := tVar 1) (ev_var rfl) hB))
    have c := ev_eqNew fr (ev_var (i := 1) rfl) hB
    rw [nv_length] at c
    refine c H (Ex.refl H) _ fun H1 e1 => ?_
    have e : (r.take t.length == t) = t.isPrefixOf r := by
      rw [prefix_take]
      unfold beginsWith
      exact Bool.eq_iff_iff.mpr (by simp)
    rw [e]
    exact k H1 e1
/-! words and a row -/
def spAskN (K : PySem.W.Frag) (CW : Addr) (g : List Sy.Word → Sy.Text → Nat) : Sp := fun vs H Q _ => ∃ (b a : Addr) (ps : List (Addr × Sy.Word)) (r : List Nat), vs = [.ref b, .ref a] ∧ SqL K H b (refsOf ps) ∧ WordsAt K CW H ps ∧ ps.length ≤ 1000 ∧ SqL K H a (nv r) ∧ RetV (.int (g (wordsOf ps) r : Int)) H Q
theorem comp_count {ps : List (Addr × Sy.Word)} (f : Sy.Word → Bool) : (((zsOf ps).filter fun z : V × Sy.Word => f z.2).map fun z => z.1).length = ((wordsOf ps).filter f).length := by
  rw [show ((zsOf ps).filter fun z : V × Sy.Word => f z.2).map (fun z => z.1) = refsOf (ps.filter fun z => f z.2) from comp_refs f, refsOf_len, ← filter_snd, List.length_map]
theorem scCountBefore : FnScope ["words", "row", "word"] ["words", "row"] (defScope sCountBefore) := ⟨rfl, rfl, rfl, by decide +kernel, rfl, by decide +kernel, by decide +kernel⟩
theorem ok_countBefore {f : Addr} {fd : FuncData} (D : Dn K mg "count_before" sCountBefore ["words", "row"] f fd) (T : TxtR K mg CW) : FnOk P w K mg base CX0 1 f fd ["words", "row"] (spAskN K CW Sy.firstOf) := by
  refine D.F.ok scCountBefore (fun vs H Q E h => ?_) (fun cdv A outer s H vs Q E hr h => ?_)
  · obtain ⟨b, a, ps, r, rfl, _⟩ := h
    rfl
  · obtain ⟨b, a, ps, r, rfl, hB, hW, hle, hA, k⟩ := h
    refine ⟨_, pss_one (ps_ret (pe_callB call_len_seq (by rfl) T.len PySem.boot_len (pa_cons (pe_lc (own := [("word", 2)]) (g := gName 2) rfl scCountBefore.nd (pi_list (pv 0)) (blkOk_by (N := ["words", "row", "word"]) (sc := defScope sCountBefore) (by decide +kernel))
      (fun _ _ _ _ _ => pg_name (i := 2) scCountBefore.nd rfl (Or.inl rfl)) (fun _ _ _ _ _ => pts_one (pt_cmpR (op_ltDK (K := K) rfl hr.units) (pe_fldK (K := K) rfl (pv 2) rfl) (pv 1) (nomark _))) (fun _ _ _ _ _ => pv 2)) pa_nil))), ?_⟩
    have c := el_compZ (K := K) (σ := start ["words", "row", "word"] [V.ref b, V.ref a]) (H := H) (a := b) (zs := zsOf ps) (j := 2) (vs := [2]) (tl := tVar 0) (t := tTest (tOp (rLtD K) (tFld K (tVar 2) "reading") (tVar 1))) (te := tVar 2)
      (fun z => Sy.before z.2.reading r) (fun z => z.1) (ev_var rfl) (by rw [zsOf_fst]; exact hB) (by rw [List.length_map]; exact sz_ok (by omega)) (fun x => rfl)
      (fun z H3 e3 hz => by
        obtain ⟨u, hu, rfl⟩ := zsOf_mem hz
        obtain ⟨d1, r1, t1, g1, hR1, hT1⟩ := (hW u hu).mono e3
        exact et_test (ev_op (ev_fld (ev_var rfl) g1 T.cl T.nR (wF_reading _ _ _)) (ev_var rfl) (rv_ltRow hR1 (ex_l e3 hA))))
      (fun z H3 e3 hz _ => ev_var rfl)
    have cl := ev_lenN (K := K) c
    rw [comp_count fun x : Sy.Word => Sy.before x.reading r] at cl
    exact cl H (Ex.refl H) _ fun H1 e1 => k H1 e1
theorem scCountReading : FnScope ["words", "row", "word"] ["words", "row"] (defScope sCountReading) := ⟨rfl, rfl, rfl, by decide +kernel, rfl, by decide +kernel, by decide +kernel⟩
theorem ok_countReading {f : Addr} {fd : FuncData} (D : Dn K mg "count_of_reading" sCountReading ["words", "row"] f fd) (T : TxtR K mg CW) : FnOk P w K mg base CX0 1 f fd ["words", "row"] (spAskN K CW Sy.manyOf) := by
  refine D.F.ok scCountReading (fun vs H Q E h => ?_) (fun cdv A outer s H vs Q E hr h => ?_)
  · obtain ⟨b, a, ps, r, rfl, _⟩ := h
    rfl
  · obtain ⟨b, a, ps, r, rfl, hB, hW, hle, hA, k⟩ := h
    refine ⟨_, pss_one (ps_ret (pe_callB call_len_seq (by rfl) T.len PySem.boot_len (pa_cons (pe_lc (own := [("word", 2)]) (g := gName 2) rfl scCountReading.nd (pi_list (pv 0)) (blkOk_by (N := ["words", "row", "word"]) (sc := defScope sCountReading) (by decide +kernel))
      (fun _ _ _ _ _ => pg_name (i := 2) scCountReading.nd rfl (Or.inl rfl)) (fun _ _ _ _ _ => pts_one (pt_cmpR (op_eqDK (K := K) rfl hr.units) (pe_fldK (K := K) rfl (pv 2) rfl) (pv 1) (nomark _))) (fun _ _ _ _ _ => pv 2)) pa_nil))), ?_⟩
    have c := el_compZ (K := K) (σ := start ["words", "row", "word"] [V.ref b, V.ref a]) (H := H) (a := b) (zs := zsOf ps) (j := 2) (vs := [2]) (tl := tVar 0) (t := tTest (tOp (rEqD K) (tFld K (tVar 2) "reading") (tVar 1))) (te := tVar 2)
      (fun z => z.2.reading == r) (fun z => z.1) (ev_var rfl) (by rw [zsOf_fst]; exact hB) (by rw [List.length_map]; exact sz_ok (by omega)) (fun x => rfl)
      (fun z H3 e3 hz => by
        obtain ⟨u, hu, rfl⟩ := zsOf_mem hz
        obtain ⟨d1, r1, t1, g1, hR1, hT1⟩ := (hW u hu).mono e3
        exact et_test (ev_op (ev_fld (ev_var rfl) g1 T.cl T.nR (wF_reading _ _ _)) (ev_var rfl) (rv_eqRow hR1 (ex_l e3 hA))))
      (fun z H3 e3 hz _ => ev_var rfl)
    have cl := ev_lenN (K := K) c
    rw [comp_count fun x : Sy.Word => x.reading == r] at cl
    exact cl H (Ex.refl H) _ fun H1 e1 => k H1 e1
/-! numbers_going_on -/
def spNums (K : PySem.W.Frag) (CW : Addr) : Sp := fun vs H Q _ => ∃ (b a : Addr) (ps : List (Addr × Sy.Word)) (r : List Nat), vs = [.ref b, .ref a] ∧ SqL K H b (refsOf ps) ∧ WordsAt K CW H ps ∧ ps.length ≤ 1000 ∧ SqL K H a (nv r) ∧ RetL (nv (goers (wordsOf ps) r)) H Q
theorem scNums : FnScope ["words", "row", "number", "word"] ["words", "row"] (defScope sNumsGoing) := ⟨rfl, rfl, rfl, by decide +kernel, rfl, by decide +kernel, by decide +kernel⟩
theorem refs_get {ps : List (Addr × Sy.Word)} {i : Nat} {x : V} (h : (refsOf ps)[i]? = some x) : ∃ u, ps[i]? = some u ∧ x = .ref u.1 ∧ (wordsOf ps)[i]? = some u.2 := by
  rw [List.getElem?_map] at h
  cases e : ps[i]? with
  | none =>
    rw [e] at h
    cases h
  | some u =>
    rw [e] at h
    exact ⟨u, rfl, (Option.some.inj h).symm, by rw [List.getElem?_map, e]; rfl⟩
theorem ok_nums {f f1 : Addr} {fd fd1 : FuncData} (D : Dn K mg "numbers_going_on" sNumsGoing ["words", "row"] f fd) (T : TxtR K mg CW) (he : mg "enumerate" = none) (D1 : Dn K mg "has_beginning" sHasBeg ["row", "beginning"] f1 fd1) (G1 : FnOk P w K mg base CX0 1 f1 fd1 ["row", "beginning"] (spHasBeg K)) :
    FnOk P w K mg base CX0 2 f fd ["words", "row"] (spNums K CW) := by
  refine D.F.ok scNums (fun vs H Q E h => ?_) (fun cdv A outer s H vs Q E hr h => ?_)
  · obtain ⟨b, a, ps, r, rfl, _⟩ := h
    rfl
  · obtain ⟨b, a, ps, r, rfl, hB, hW, hle, hA, k⟩ := h
    have hr1 : Room 1 _ := hr.mono (by decide)
    refine ⟨_, pss_one (ps_ret (pe_lc (own := [("number", 2), ("word", 3)]) (g := gTup K 2 (gCons (gName 2) (gCons (gName 3) gNil))) rfl scNums.nd (pi_enum (by rfl) he (pa_cons (pv 0) pa_nil)) (blkOk_by (N := ["words", "row", "number", "word"]) (sc := defScope sNumsGoing) (by decide +kernel))
      (fun _ _ _ _ _ => pg_tupK (K := K) rfl rfl (pgs_cons (pg_name (i := 2) scNums.nd rfl (Or.inl rfl)) (pgs_cons (pg_name (i := 3) scNums.nd rfl (Or.inl rfl)) pgs_nil)))
      (fun _ _ _ _ _ => pts_one (pt_val (pe_call G1 hr1 rfl D1.g D1.kp D1.b .nil pass0 (pa_cons (pe_fldK (K := K) rfl (pv 3) rfl) (pa_cons (pv 1) pa_nil))))) (fun _ _ _ _ _ => pv 2))), ?_⟩
    have c := el_compE (K := K) (σ := start ["words", "row", "number", "word"] [V.ref b, V.ref a]) (H := H) (a := b) (xs := refsOf ps) (j1 := 2) (j2 := 3) (vs := [2, 3]) (tl := tVar 0) (t := tB (tCall (spHasBeg K) [] (fun _ _ _ => False) (tCons (tFld K (tVar 3) "reading") (tCons (tVar 1) tNil)))) (te := tVar 2)
      (fun i => match (wordsOf ps)[i]? with
        | some w => r.isPrefixOf w.reading
        | none => false) (fun i => .int (i : Int)) (ev_var rfl) hB (by rw [List.length_map]; omega) (fun x y => rfl)
      (fun i x H3 e3 hx => by
        obtain ⟨u, hu, rfl, hu2⟩ := refs_get hx
        obtain ⟨d1, r1, t1, g1, hR1, hT1⟩ := (hW u (List.mem_of_getElem? hu)).mono e3
        rw [hu2]
        exact et_B (call2 (ev_fld (ev_var rfl) g1 T.cl T.nR (wF_reading _ _ _)) (ev_var rfl) fun H4 e4 Q' hQ E => ⟨r1, a, u.2.reading, r, rfl, ex_l e4 hR1, ex_l (e3.trans e4) hA, hQ⟩))
      (fun i x H3 e3 hx _ => ev_var rfl)
    have e : given (refsOf ps).length (fun i => match (wordsOf ps)[i]? with
        | some w => r.isPrefixOf w.reading
        | none => false) (fun i => .int (i : Int)) = nv (goers (wordsOf ps) r) := by
      unfold given goers
      rw [refsOf_len, List.length_map]
      first
        | done
        | rfl
    rw [e] at c
    exact c H (Ex.refl H) _ fun q H1 hq e1 h1 => k q H1 hq e1 h1
end
end So
/-! asked.py: lengths_beginning -/
namespace So
open PySem PySem.Spec PyProof.Rows L2 Evl
open PySem.W (EachIs)
abbrev sLensBeg : Stmt := top 26
theorem each_snoc {α β : Type} {R : α → β → Prop} {y : β} : ∀ {bs : List β} {as : List α}, EachIs R as (bs ++ [y]) → ∃ as' x, as = as' ++ [x] ∧ EachIs R as' bs ∧ R x y
  | [], _, .cons h .nil => ⟨[], _, rfl, .nil, h⟩
  | _ :: bs, _, .cons h t => by
    obtain ⟨as', x, rfl, e, r⟩ := each_snoc t
    exact ⟨_ :: as', x, rfl, .cons h e, r⟩
theorem each_mem {α β : Type} {R S : α → β → Prop} : ∀ {as : List α} {bs : List β}, EachIs R as bs → (∀ a ∈ as, ∀ b, R a b → S a b) → EachIs S as bs
  | _, _, .nil, _ => .nil
  | _, _, .cons h t, k => .cons (k _ List.mem_cons_self _ h) (each_mem t fun a ha => k a (List.mem_cons_of_mem _ ha))
theorem each_all {α β : Type} {R : α → β → Prop} : ∀ {as : List α} {bs : List β}, EachIs R as bs → ∀ a ∈ as, ∃ b, R a b
  | _, _, .cons h t, a, ha => by
    rcases List.mem_cons.mp ha with z | z
    · subst z
      exact ⟨_, h⟩
    · exact each_all t a z
/-- the lists made so far: new ones, each with its three numbers -/
abbrev Threes (H H' : Hp) (l : Addr) (as : List Addr) (ts : List (List Nat)) : Prop := EachIs (fun q t => H' q = some (.lst (nv t)) ∧ H q = none ∧ q ≠ l) as ts
section
variable {P : Program} {w : World} {K : PySem.W.Frag} {mg : Str → Option Value} {base : Heap} {CW : Addr}
def spLens (K : PySem.W.Frag) (CW : Addr) : Sp := fun vs H Q _ => ∃ (b a : Addr) (ps : List (Addr × Sy.Word)) (r : List Nat), vs = [.ref b, .ref a] ∧ SqL K H b (refsOf ps) ∧ WordsAt K CW H ps ∧ ps.length ≤ 1000 ∧ InOrder (wordsOf ps) ∧ (∀ x ∈ wordsOf ps, x.reading ≠ []) ∧ SqL K H a (nv r) ∧ r.length ≤ 1000 ∧
  ∀ (l : Addr) (as : List Addr) (H' : Hp), H l = none → Ex H H' → H' l = some (.lst (as.map V.ref)) → Threes H H' l as (Sy.beginsHere (wordsOf ps) r) → Q (.ref l) H'
theorem scLens : FnScope ["words", "row", "lengths", "number", "word", "length"] ["words", "row"] (defScope sLensBeg) := ⟨rfl, rfl, rfl, by decide +kernel, rfl, by decide +kernel, by decide +kernel⟩
theorem ok_lens {f f1 : Addr} {fd fd1 : FuncData} (D : Dn K mg "lengths_beginning" sLensBeg ["words", "row"] f fd) (T : TxtR K mg CW) (he : mg "enumerate" = none) (D1 : Dn K mg "has_beginning" sHasBeg ["row", "beginning"] f1 fd1) (G1 : FnOk P w K mg base CX0 1 f1 fd1 ["row", "beginning"] (spHasBeg K)) :
    FnOk P w K mg base CX0 2 f fd ["words", "row"] (spLens K CW) := by
  refine D.F.ok scLens (fun vs H Q E h => ?_) (fun cdv A outer s H vs Q E hr h => ?_)
  · obtain ⟨b, a, ps, r, rfl, _⟩ := h
    rfl
  · obtain ⟨b, a, ps, r, rfl, hB, hW, hle, hO, hN, hA, hrl, k⟩ := h
    have hr1 : Room 1 _ := hr.mono (by decide)
    refine ⟨_, pss_cons (ps_set (i := 2) scLens.nd rfl (Or.inl rfl) (pe_lst pa_nil))
      (pss_cons (ps_for PassesOwn.never rfl (pi_enum (by rfl) he (pa_cons (pv 0) pa_nil)) (pg_tup rfl (pgs_cons (pg_name (i := 3) scLens.nd rfl (Or.inl rfl)) (pgs_cons (pg_name (i := 4) scLens.nd rfl (Or.inl rfl)) pgs_nil)))
        (pss_cons (ps_if (pt_not (pt_val (pe_call G1 hr1 rfl D1.g D1.kp D1.b .nil pass0 (pa_cons (pv 1) (pa_cons (pe_fld (pv 4) rfl) pa_nil))))) (pss_one ps_continue) pss_nil)
        (pss_cons (ps_set (i := 5) scLens.nd rfl (Or.inl rfl) (pe_callB call_len_seq (by rfl) T.len PySem.boot_len (pa_cons (pe_fld (pv 4) rfl) pa_nil)))
        (pss_one (ps_if (PW.pt (pw_and (pt_cmpR op_gt (pe_callB call_len_seq (by rfl) T.len PySem.boot_len (pa_cons (pv 2) pa_nil)) pe_int (nomark _)) (pw_and1 (pt_cmpR op_eq (pe_ix ix_list (pe_ix ix_list (pv 2) (pe_un un_neg pe_int) (fun _ _ => rfl)) pe_int (fun _ _ => rfl)) (pv 5) (nomark _)))))
          (pss_one (ps_augS (pe_ix ix_list (pv 2) (pe_un un_neg pe_int) (fun _ _ => rfl)) pe_int pget_list pe_int ip_add set_list))
          (pss_one (ps_expr (pe_bm PySem.F.plainAttrs_list PySem.F.slot_list_append PySem.F.type_list_append mt_append (pv 2) (pa_cons (pe_lst (pa_cons (pv 5) (pa_cons (pv 3) (pa_cons pe_int pa_nil)))) pa_nil)))))))))
      (pss_one (ps_ret (pv 2)))), ?_⟩
    refine q_asgL ev_lst0 fun l H1 hl e1 h1 => ?_
    refine ⟨_, rfl, b, _, rfl, ex_l e1 hB, ?_⟩
    refine enum_loop (K := K) (xs := refsOf ps) (j1 := 3) (j2 := 4) (ex_l e1 hB) (fun i σ' H' => ∃ (as : List Addr) (v3 v4 v5 : Option V), σ' = [some (.ref b), some (.ref a), some (.ref l), v3, v4, v5] ∧ Ex H H' ∧ H' l = some (.lst (as.map V.ref)) ∧ Threes H H' l as (Sy.beginsHere ((wordsOf ps).take i) r) ∧ as.Nodup)
      ⟨[], none, none, none, rfl, e1, h1, by rw [List.take_zero, begins_nil]; exact .nil, List.nodup_nil⟩ (fun i σ' H' _ ⟨_, _, _, _, _, e, _⟩ => ex_l e hB) ?_ ?_
    · rintro i x σ' H' hx ⟨as, v3, v4, v5, rfl, eH, hll, hT, hnd⟩ U hU
      obtain ⟨u, hu, rfl, hu2⟩ := refs_get hx
      have hstep := begins_take hO hN r hu2
      have eU : Ex H' (upd H' U (.tup [.int (i : Int), .ref u.1])) := Ex.new hU
      have eH4 := eH.trans eU
      have hll4 := eU _ _ hll
      have hT4 : Threes H (upd H' U (.tup [.int (i : Int), .ref u.1])) l as (Sy.beginsHere ((wordsOf ps).take i) r) := hT.mono fun q t z => ⟨eU _ _ z.1, z.2⟩
      generalize upd H' U (.tup [.int (i : Int), .ref u.1]) = H4 at *
      obtain ⟨d1, r1, t1, g1, hR1, hT1⟩ := (hW u (List.mem_of_getElem? hu)).mono eH4
      -- a new list of three numbers at the end
      have keep : ∀ {H5 : Hp}, Ex H4 H5 → Threes H H5 l as (Sy.beginsHere ((wordsOf ps).take i) r) := fun e5 => hT4.mono fun q t z => ⟨e5 _ _ z.1, z.2⟩
      refine q_when (b := !(u.2.reading.isPrefixOf r)) (et_not (et_B (call2 (ev_var rfl) (ev_fld (ev_var rfl) g1 T.cl T.nR (wF_reading _ _ _)) fun H5 e5 Q' hQ E => ⟨a, r1, r, u.2.reading, rfl, ex_l (eH4.trans e5) hA, ex_l e5 hR1, hQ⟩))) (fun hb H5 e5 => ?_) (fun hb H5 e5 => ?_)
      · have hp : u.2.reading.isPrefixOf r = false := by simpa using hb
        have e : Sy.beginsHere ((wordsOf ps).take (i + 1)) r = Sy.beginsHere ((wordsOf ps).take i) r := by
          rw [hstep]
          unfold bStep
          rw [if_pos hp]
        refine ⟨as, _, _, _, rfl, eH4.trans e5, e5 _ _ hll4, ?_, hnd⟩
        rw [e]
        exact keep e5
      have hp : ¬ u.2.reading.isPrefixOf r = false := by simpa using hb
      have hlen := ev_len (K := K) (σ := [some (.ref b), some (.ref a), some (.ref l), some (.int (i : Int)), some (.ref u.1), v5]) (H := H5) (ta := tFld K (tVar 4) "reading") (ev_fld (ev_var rfl) (e5 _ _ g1) T.cl T.nR (wF_reading _ _ _)) (ex_l e5 hR1)
      rw [nv_length] at hlen
      refine q_asg hlen fun H6 e6 => ?_
      have e46 := e5.trans e6
      have eH6 := eH4.trans e46
      have hll6 := e46 _ _ hll4
      have hT6 := keep e46
      have few : as.length ≤ 1002 := by
        have h2 := hT.length
        have h3 := begins_few (L := (wordsOf ps).take i) (r := r)
        omega
      -- append
      have app : ∀ (D : Ends), (∀ σ' H', (∃ (as : List Addr) (v3 v4 v5 : Option V), σ' = [some (.ref b), some (.ref a), some (.ref l), v3, v4, v5] ∧ Ex H H' ∧ H' l = some (.lst (as.map V.ref)) ∧ Threes H H' l as (Sy.beginsHere ((wordsOf ps).take (i + 1)) r) ∧ as.Nodup) → D.nx σ' H') → ∀ H7, Ex H6 H7 → Sy.beginsHere ((wordsOf ps).take (i + 1)) r = Sy.beginsHere ((wordsOf ps).take i) r ++ [[u.2.reading.length, i, 1]] →
          tDrop (tBM K "list" rAppend (tVar 2) (tCons (tLst (tCons (tVar 5) (tCons (tVar 3) (tCons (tC (.int 1)) tNil)))) tNil)) D
            [some (.ref b), some (.ref a), some (.ref l), some (.int (i : Int)), some (.ref u.1), some (.int (u.2.reading.length : Int))] H7 := by
        intro D hD H7 e7 es
        have hll7 := e7 _ _ hll6
        refine s_appL hll7 (ev_var rfl) (el_lst (ea_cons (ev_var rfl) (ea_cons (ev_var rfl) (ea_cons ev_c ea_nil))) (by show 3 ≤ 100000; decide)) (by rw [List.length_map]; omega) fun q H8 hq e8 hq8 => ?_
        have nql : q ≠ l := (ne_of_none hll7 hq).symm
        have eH7 := eH6.trans e7
        have hqH : H q = none := fresh_back eH7 hq
        have nin : q ∉ as := fun z => by
          obtain ⟨t, ht, _⟩ := each_all hT6 q z
          rw [e7 _ _ ht] at hq
          cases hq
        refine hD _ _ ⟨as ++ [q], _, _, _, rfl, Ex.mut (eH7.trans e8) hl, ?_, ?_, ?_⟩
        · rw [List.map_append]
          exact upd_same
        · rw [es]
          refine each_app1 ⟨?_, hqH, nql⟩ (hT6.mono fun q t z => ⟨?_, z.2⟩)
          · rw [upd_ne nql, hq8]
            rfl
          · rw [upd_ne z.2.2]
            exact e8 _ _ (e7 _ _ z.1)
        · rw [List.nodup_append]
          refine ⟨hnd, by simp, fun x hx y hy => ?_⟩
          rw [List.mem_singleton.mp hy]
          intro z
          subst z
          exact nin hx
      have hll6' := sq_of (K := K) hll6
      have hl2 := ev_len (K := K) (σ := [some (.ref b), some (.ref a), some (.ref l), some (.int (i : Int)), some (.ref u.1), some (.int (u.2.reading.length : Int))]) (H := H6) (ta := tVar 2) (ev_var rfl) hll6'
      rcases List.eq_nil_or_concat (Sy.beginsHere ((wordsOf ps).take i) r) with h0 | ⟨ts, t, h0⟩
      · rw [h0] at hT6
        have ha0 : as = [] := by
          cases hT6
          rfl
        subst ha0
        refine s_if (b := false && false) (et_and (a := false) (et_is (et_test (ev_op hl2 ev_c rv_I0)) (by rfl)) (fun z => nomatch z)) (fun z => nomatch z) fun _ H7 e7 => app _ (fun _ _ h => h) H7 e7 ?_
        rw [hstep]
        unfold bStep
        rw [if_neg hp, h0]
        rfl
      · have h0' : Sy.beginsHere ((wordsOf ps).take i) r = ts ++ [t] := by
          rw [h0]
          try simp
        obtain ⟨k1, k2, k3, rfl⟩ := begins_three (t := t) (L := (wordsOf ps).take i) (r := r) (by rw [h0']; simp)
        have hT6' := hT6
        rw [h0'] at hT6'
        obtain ⟨as', q, rfl, hT', hq, hqH, nql⟩ := each_snoc hT6'
        have lastq : ∀ {H7 : Hp}, Ex H6 H7 → Ev (tOp (rIxL K) (tVar 2) (tUn (rU fun i => .int (-i)) (tC (.int 1)))) [some (.ref b), some (.ref a), some (.ref l), some (.int (i : Int)), some (.ref u.1), some (.int (u.2.reading.length : Int))] H7 (.ref q) := fun {H7} e7 =>
          ev_op (ev_var rfl) (ev_un ev_c ru_neg) (rv_ixL (xs := (as' ++ [q]).map V.ref) (sq_of (e7 _ _ hll6)) (by rw [List.map_append]; exact atI_last _ _))
        refine s_if (b := true && decide (V.int (k1 : Int) = V.int (u.2.reading.length : Int))) (et_and (a := true) (et_is (et_test (ev_op hl2 ev_c rv_I0)) (by simp)) (fun _ => et_test (ev_op (ev_op (lastq (Ex.refl H6)) ev_c (rv_ixL (xs := nv [k1, k2, k3]) (i := 0) (sq_of hq) (atI_nat (j := 0) rfl))) (ev_var rfl) (rv_eq rfl)))) (fun hb H7 e7 => ?_) (fun hb H7 e7 => ?_)
        · have hk : k1 = u.2.reading.length := by
            simp at hb
            omega
          have hq7 := e7 _ _ hq
          refine lastq e7 H7 (Ex.refl H7) _ fun H8 e8 => ⟨q, nv [k1, k2, k3], 2, .int (k3 : Int), rfl, rfl, sq_of (e8 _ _ hq7), atI_nat (j := 2) rfl, (k3 : Int), 1, rfl, rfl, q, nv [k1, k2, k3], 2, 2, rfl, rfl, e8 _ _ hq7, rfl, ?_⟩
          have e68 := e7.trans e8
          refine ⟨as' ++ [q], _, _, _, rfl, Ex.mut (eH6.trans e68) hqH, ?_, ?_, hnd⟩
          · rw [upd_ne nql.symm]
            exact e68 _ _ hll6
          · have es : Sy.beginsHere ((wordsOf ps).take (i + 1)) r = ts ++ [[k1, k2, k3 + 1]] := by
              rw [hstep]
              unfold bStep
              rw [if_neg hp, h0', List.getLast?_concat]
              dsimp only
              rw [if_pos hk, List.dropLast_concat]
            rw [es]
            refine each_app1 ⟨upd_same, hqH, nql⟩ (each_mem hT' fun c hc t z => ⟨?_, z.2⟩)
            have ncq : c ≠ q := fun y => by
              subst y
              have := List.nodup_append.mp hnd
              exact this.2.2 c hc c (List.mem_singleton.mpr rfl) rfl
            rw [upd_ne ncq]
            exact e68 _ _ z.1
        · have hk : ¬ k1 = u.2.reading.length := by
            intro z
            rw [z] at hb
            simp at hb
          refine app _ (fun _ _ h => h) H7 e7 ?_
          rw [hstep]
          unfold bStep
          rw [if_neg hp, h0', List.getLast?_concat]
          dsimp only
          rw [if_neg hk]
    · rintro σ' H' ⟨as, v3, v4, v5, rfl, eH, hll, hT, hnd⟩
      have et : (wordsOf ps).take (refsOf ps).length = wordsOf ps := List.take_of_length_le (by rw [List.length_map, List.length_map]; exact Nat.le_refl _)
      rw [et] at hT
      exact ⟨_, rfl, k l as H' hl eH hll hT⟩
end
end So
/-! lexicon.py: row_refusal, get, number, find, begins, goes -/
namespace So
open PySem PySem.Spec PyProof.Rows L2 Evl
open PySem.W (EachIs)
abbrev sRefusal : Stmt := top 65
abbrev sGet : Stmt := inClass sLexicon 8
abbrev sNumber : Stmt := inClass sLexicon 9
abbrev sFind : Stmt := inClass sLexicon 10
abbrev sBegins : Stmt := inClass sLexicon 11
abbrev sGoes : Stmt := inClass sLexicon 12
structure TxtY (mg : Str → Option Value) : Prop where
  MA : IntC mg "MOST_ASKED" 64
  NR : IntC mg "NO_REFUSAL" 0
  NC : IntC mg "NO_CHARACTER" (-3)
  NF : IntC mg "NONE_FOUND" (-5)
  any : mg "any" = none
  all : mg "all" = none
/-- xs + ys, both readable -/
def rCatSq (K : PySem.W.Frag) : R2 := fun x y H Q => ∃ a b xs ys, x = .ref a ∧ y = .ref b ∧ SqL K H a xs ∧ SqL K H b ys ∧ xs.length + ys.length ≤ sizeLine ∧ ∀ p, H p = none → Q (.ref p) (upd H p (.lst (xs ++ ys)))
theorem op_catSq {X : Cx} {K : PySem.W.Frag} (hK : X.K = K) : OpR X (binaryOp .Add) (rCatSq K) := by
  subst hK
  intro pins s σ H x y v u Q I rx ry h
  obtain ⟨a, b, xs, ys, rfl, rfl, hA, hB, hz, q⟩ := h
  cases rx
  cases ry
  obtain ⟨its, r, p1, _⟩ := I.list hA
  obtain ⟨its2, r2, p2, _⟩ := I.list hB
  have l1 := r.length
  have l2 := r2.length
  obtain ⟨⟨cls, dd, data, sl⟩, ho, hc, n, hd⟩ := p1.isList
  obtain ⟨⟨cls2, dd2, data2, sl2⟩, ho2, hc2, n2, hd2⟩ := p2.isList
  simp only at hc hd hc2 hd2
  subst hc hd hc2 hd2
  refine concat_meets ⟨_, ho, rfl⟩ ⟨_, ho2, rfl⟩ noFill_list_add seq_list_add PySem.F.slot_list_add PySem.F.entry_list_add (PySem.F.args_list_add_2 _ _) (list_addW a b its.toArray its2.toArray n n2 dd dd2 sl sl2 (by rw [List.size_toArray, List.size_toArray]; omega)) ⟨ho, ho2, ?_⟩
  have ea : its.toArray ++ its2.toArray = (its ++ its2).toArray := by simp
  rw [ea]
  exact ⟨.ref _, _, I.lnew (t' := s.toks) (r.append r2) (by rw [List.length_append]; omega), rfl, q _ I.fresh⟩
theorem call_lenK {X : Cx} {K : PySem.W.Frag} (hK : X.K = K) : CallR X (.builtin "len") (rLenS K) := by
  subst hK
  exact call_len_seq
section
variable {K : PySem.W.Frag} {σ : L2.St} {H : Hp} {ta tb te tl : TE} {D : Ends} {tu tz : TS} {v z : V}
/-- new + standing -/
theorem el_catSq {b : Addr} {xs ys : List V} (ha : EvL ta σ H xs) (hb : Ev tb σ H (.ref b)) (hB : SqL K H b ys) (hz : xs.length + ys.length ≤ sizeLine) : EvL (tOp (rCatSq K) ta tb) σ H (xs ++ ys) := fun H1 e Q q =>
  ha H1 e _ fun p H2 _ e2 h2 => hb H2 (e.trans e2) _ fun H3 e3 => ⟨p, b, xs, ys, rfl, rfl, sq_of (e3 _ _ h2), ex_l ((e.trans e2).trans e3) hB, hz, fun r hr => q r _ (fresh_back (e2.trans e3) hr) ((e2.trans e3).trans (Ex.new hr)) upd_same⟩
/-- f([..]), the list made on the way -/
theorem ev_callL {sp : Sp} {E : XK} {xs : List V} (h : EvL te σ H xs) (hs : ∀ p H1, Ex H H1 → H1 p = some (.lst xs) → ∀ Q : VK, RetV z H1 Q → ∀ E : XK, sp [.ref p] H1 Q E) : Ev (tCall sp [] E (tCons te tNil)) σ H z := fun H0 e Q q =>
  h H0 e _ fun p H1 _ e1 h1 => hs p H1 (e.trans e1) h1 Q (fun H2 e2 => q H2 (e1.trans e2)) E
end
section
variable {P : Program} {w : World} {K : PySem.W.Frag} {mg : Str → Option Value} {base : Heap} {CW CL : Addr}
/-! row_refusal -/
def spRefusal (K : PySem.W.Frag) : Sp := fun vs H Q _ => ∃ (l : Addr) (qs : List (Addr × List Nat)), vs = [.ref l] ∧ SqL K H l (qs.map fun q => V.ref q.1) ∧ (∀ q ∈ qs, SqL K H q.1 (nv q.2)) ∧ (∀ q ∈ qs, q.2.length ≤ sizeLine) ∧ qs.length ≤ 1000 ∧ RetV (.int (rowsNum (qs.map Prod.snd))) H Q
theorem scRefusal : FnScope ["rows", "row"] ["rows"] (defScope sRefusal) := ⟨rfl, rfl, rfl, by decide +kernel, rfl, by decide +kernel, by decide +kernel⟩
theorem ok_refusal {f f1 : Addr} {fd fd1 : FuncData} (D : Dn K mg "row_refusal" sRefusal ["rows"] f fd) (T : TxtR K mg CW) (X : TxtX K mg CL) (Y : TxtY mg) (D1 : Dn K mg "all_characters" sAllChar ["row"] f1 fd1) (G1 : FnOk P w K mg base CX0 2 f1 fd1 ["row"] (spRow K Sy.isText)) :
    FnOk P w K mg base CX0 3 f fd ["rows"] (spRefusal K) := by
  refine D.F.ok scRefusal (fun vs H Q E h => ?_) (fun cdv A outer s H vs Q E hr h => ?_)
  · obtain ⟨l, qs, rfl, _⟩ := h
    rfl
  · obtain ⟨l, qs, rfl, hl, hq, hz, hn, k⟩ := h
    have hr2 : Room 2 _ := hr.mono (by decide)
    refine ⟨_, pss_cons (ps_if (pt_val (pe_callB (cr_any rfl) (by rfl) Y.any (by decide +kernel) (pa_cons (pe_lc (own := [("row", 1)]) (g := gName 1) (tt := tYes) rfl scRefusal.nd (pi_list (pv 0)) (blkOk_by (N := ["rows", "row"]) (sc := defScope sRefusal) (by decide +kernel))
        (fun _ _ _ _ _ => pg_name (i := 1) scRefusal.nd rfl (Or.inl rfl)) (fun _ _ _ _ _ => pts_nil) (fun _ _ _ _ _ => pe_cmpR op_gt (pe_callB (call_lenK (K := K) rfl) (by rfl) T.len PySem.boot_len (pa_cons (pv 1) pa_nil)) (pe_ic Y.MA) (nomark _))) pa_nil))) (pss_one (ps_ret (pe_ic X.tl))) pss_nil)
      (pss_cons (ps_if (pt_not (pt_val (pe_callB (cr_all rfl) (by rfl) Y.all (by decide +kernel) (pa_cons (pe_lc (own := [("row", 1)]) (g := gName 1) (tt := tYes) rfl scRefusal.nd (pi_list (pv 0)) (blkOk_by (N := ["rows", "row"]) (sc := defScope sRefusal) (by decide +kernel))
        (fun _ _ _ _ _ => pg_name (i := 1) scRefusal.nd rfl (Or.inl rfl)) (fun _ _ _ _ _ => pts_nil) (fun _ _ _ _ _ => pe_call G1 hr2 rfl D1.g D1.kp D1.b .nil pass0 (pa_cons (pv 1) pa_nil))) pa_nil)))) (pss_one (ps_ret (pe_ic Y.NC))) pss_nil)
      (pss_one (ps_ret (pe_ic Y.NR)))), ?_⟩
    have hzl : (qs.map fun q => (V.ref q.1, q.2)).length ≤ sizeLine := by rw [List.length_map]; exact sz_ok (by omega)
    have hfst : (qs.map fun q => (V.ref q.1, q.2)).map Prod.fst = qs.map fun q => V.ref q.1 := by rw [List.map_map]; rfl
    have c1 := el_compZ (K := K) (σ := start ["rows", "row"] [V.ref l]) (H := H) (a := l) (zs := qs.map fun q => (V.ref q.1, q.2)) (j := 1) (vs := [1]) (tl := tVar 0) (t := tYes) (te := tOp (rI0 fun i j => .bl (decide (j < i))) (tCB (rLenS K) (tCons (tVar 1) tNil)) (tC (.int 64))) (fun _ => true) (fun z => .bl (decide (64 < z.2.length))) (ev_var rfl) (by rw [hfst]; exact hl) hzl (fun x => rfl)
      (fun z H1 _ _ => et_yes) (fun z H1 e1 hz1 _ => by
        obtain ⟨u, hu, rfl⟩ := List.mem_map.mp hz1
        have hlen := ev_len (K := K) (σ := (wipe (start ["rows", "row"] [V.ref l]) [1]).set 1 (some (V.ref u.1))) (H := H1) (ta := tVar 1) (ev_var rfl) (ex_l e1 (hq u hu))
        rw [nv_length] at hlen
        have e := ev_op hlen (ev_c (v := .int 64)) (rv_I0 (g := fun i j => .bl (decide (j < i))))
        have e2 : decide ((64 : Int) < (u.2.length : Int)) = decide (64 < u.2.length) := by rw [decide_eq_decide]; omega
        rw [← e2]
        exact e)
    rw [filter_true, List.map_map] at c1
    have c2 := ev_any (K := K) (bs := qs.map fun q => decide (64 < q.2.length)) (by rw [List.map_map]; exact c1)
    have e1 : ((qs.map fun q => decide (64 < q.2.length)).any id) = (qs.map Prod.snd).any fun r => decide (64 < r.length) := by rw [List.any_map, List.any_map]; rfl
    rw [e1] at c2
    refine q_when (b := (qs.map Prod.snd).any fun r => decide (64 < r.length)) (et_B c2) (fun hb H1 e1 => ?_) (fun hb H1 e1 => ?_)
    · have e : rowsNum (qs.map Prod.snd) = -1 := if_pos hb
      rw [e] at k
      exact k H1 e1
    have hb : ¬ ((qs.map Prod.snd).any fun r => decide (64 < r.length)) = true := by rw [hb]; decide
    have c3 := el_compZ (K := K) (σ := start ["rows", "row"] [V.ref l]) (H := H1) (a := l) (zs := qs.map fun q => (V.ref q.1, q.2)) (j := 1) (vs := [1]) (tl := tVar 0) (t := tYes) (te := tCall (spRow K Sy.isText) [] (fun _ _ _ => False) (tCons (tVar 1) tNil)) (fun _ => true) (fun z => .bl (Sy.isText z.2)) (ev_var rfl) (by rw [hfst]; exact ex_l e1 hl) hzl (fun x => rfl)
      (fun z H2 _ _ => et_yes) (fun z H2 e2 hz1 _ => by
        obtain ⟨u, hu, rfl⟩ := List.mem_map.mp hz1
        exact call1 (ev_var rfl) fun H3 e3 Q' hQ E => ⟨u.1, u.2, rfl, ex_l ((e1.trans e2).trans e3) (hq u hu), hz u hu, hQ⟩)
    rw [filter_true, List.map_map] at c3
    have c4 := ev_all (K := K) (bs := qs.map fun q => Sy.isText q.2) (by rw [List.map_map]; exact c3)
    have e2 : ((qs.map fun q => Sy.isText q.2).all id) = (qs.map Prod.snd).all Sy.isText := by rw [List.all_map, List.all_map]; rfl
    rw [e2] at c4
    refine q_when (b := !(qs.map Prod.snd).all Sy.isText) (et_not (et_B c4)) (fun hb2 H2 e2 => ?_) (fun hb2 H2 e2 => ?_)
    · have e : rowsNum (qs.map Prod.snd) = -3 := (if_neg hb).trans (if_pos (by simpa using hb2))
      rw [e] at k
      exact k H2 (e1.trans e2)
    · have e : rowsNum (qs.map Prod.snd) = 0 := (if_neg hb).trans (if_neg (by simpa using hb2))
      rw [e] at k
      exact k H2 (e1.trans e2)
/-- a method's end where the lexicon stays -/
theorem RetX.same {p wl : Addr} {wr : V} {ns : List Int} {L : List Sy.Word} {H H1 : Hp} {Q : VK} {te : TE} {σ : L2.St} (k : RetX K CW CL p ns L wl wr H Q) (hL : LexAt K CW CL H p L wl wr) (e : Ex H H1) (h : EvL te σ H1 (iv ns)) : te σ H1 Q :=
  h H1 (Ex.refl H1) _ fun r H2 hr e2 hr' => k r H2 wl wr (fresh_back e hr) hr' (ExB.of (e.trans e2)) (hL.mono (e.trans e2)) Lx.same
/-! get -/
def spGet (K : PySem.W.Frag) (CW CL : Addr) : Sp := fun vs H Q _ => ∃ (p : Addr) (L : List Sy.Word) (wl : Addr) (wr : V) (i : Nat), vs = [.ref p, .int (i : Int)] ∧ LexAt K CW CL H p L wl wr ∧ Lex L ∧ RetX K CW CL p (saysX L (.get i)) L wl wr H Q
theorem scGet : FnScope ["self", "number", "word", "reading", "text"] ["self", "number"] (defScope sGet) := ⟨rfl, rfl, rfl, by decide +kernel, rfl, by decide +kernel, by decide +kernel⟩
theorem ok_row_len {wd : Sy.Word} (h : wd.ok = true) : wd.reading.length ≤ 32 ∧ wd.text.length ≤ 32 := by
  rw [ok_eq] at h
  unfold isRowB at h
  simp only [Bool.and_eq_true, decide_eq_true_eq] at h
  exact ⟨h.1.2.1, h.2.1.2.1⟩
theorem ok_get {f : Addr} {fd : FuncData} (F : Fun K "get" "Lexicon.get" sGet f fd) (T : TxtR K mg CW) (X : TxtX K mg CL) : FnOk P w K mg base CX0 1 f fd ["self", "number"] (spGet K CW CL) := by
  refine F.ok scGet (fun vs H Q E h => ?_) (fun cdv A outer s H vs Q E hr h => ?_)
  · obtain ⟨p, L, _, _, i, rfl, _⟩ := h
    rfl
  · obtain ⟨p, L, wl, wr, i, rfl, hL, hX, k⟩ := h
    obtain ⟨dx, ps, h1, h2, h3, h4, h5⟩ := id hL
    refine ⟨_, pss_cons (ps_if (pt_cmpR op_ge (pv 1) (pe_callB call_len_seq (by rfl) X.len PySem.boot_len (pa_cons (pe_fld (pv 0) rfl) pa_nil)) (nomark _)) (pss_one (ps_ret (pe_lst (pa_cons (pe_ic X.ns) pa_nil)))) pss_nil)
      (pss_cons (ps_set (i := 2) scGet.nd rfl (Or.inl rfl) (pe_ix ix_list (pe_fld (pv 0) rfl) (pv 1) (fun _ _ => rfl)))
      (pss_cons (ps_set (i := 3) scGet.nd rfl (Or.inl rfl) (pe_op (op_catSq (K := K) rfl) (pe_lst (pa_cons (pe_callB call_len_seq (by rfl) X.len PySem.boot_len (pa_cons (pe_fld (pv 2) rfl) pa_nil)) pa_nil)) (pe_fld (pv 2) rfl)))
      (pss_cons (ps_set (i := 4) scGet.nd rfl (Or.inl rfl) (pe_op (op_catSq (K := K) rfl) (pe_lst (pa_cons (pe_callB call_len_seq (by rfl) X.len PySem.boot_len (pa_cons (pe_fld (pv 2) rfl) pa_nil)) pa_nil)) (pe_fld (pv 2) rfl)))
      (pss_one (ps_ret (pe_op (op_catSq (K := K) rfl) (pe_op (op_catSq (K := K) rfl) (pe_lst (pa_cons pe_int (pa_cons (pe_fld (pv 2) rfl) (pa_cons (pe_fld (pv 2) rfl) (pa_cons (pe_fld (pv 2) rfl) pa_nil))))) (pv 3)) (pv 4))))))), ?_⟩
    have el : (refsOf ps).length = L.length := by rw [← h4, List.length_map, List.length_map]
    have fw : ∀ {H1 : Hp}, Ex H H1 → Ev (tFld K (tVar 0) "words") (start ["self", "number", "word", "reading", "text"] [V.ref p, V.int (i : Int)]) H1 (.ref wl) := fun e => ev_fld (ev_var rfl) (e _ _ h1) X.cl X.nW (lF_words _ _)
    have hlen := ev_len (K := K) (H := H) (fw (Ex.refl H)) (sq_of h2)
    rw [el] at hlen
    refine q_when (b := decide ((L.length : Int) ≤ (i : Int))) (et_test (ev_op (ev_var rfl) hlen rv_I0)) (fun hb H1 e1 => ?_) (fun hb H1 e1 => ?_)
    · have hi : L.length ≤ i := by simp at hb; omega
      rw [get_none hi] at k
      exact ret_raw (RetX.same k hL e1 (el_lst (ea_cons ev_c ea_nil) (by decide)))
    · have hi : i < L.length := by simp at hb; omega
      have hip : i < ps.length := by
        have := refsOf_len ps
        omega
      have hu : (wordsOf ps)[i]? = some ps[i].2 := by rw [List.getElem?_map, List.getElem?_eq_getElem hip]; rfl
      have hr : (refsOf ps)[i]? = some (V.ref ps[i].1) := by rw [List.getElem?_map, List.getElem?_eq_getElem hip]; rfl
      have huL : L[i]? = some ps[i].2 := by rw [← h4]; exact hu
      rw [get_some huL] at k
      obtain ⟨l1, l2⟩ := ok_row_len (hX.ok _ (List.mem_of_getElem? huL))
      have hW := h3 ps[i] (List.getElem_mem hip)
      generalize ps[i] = u at *
      refine q_asg (v := .ref u.1) (ev_op (fw e1) (ev_var rfl) (rv_ixL (sq_of (e1 _ _ h2)) (atI_nat hr))) fun H2 e2 => ?_
      have e12 := e1.trans e2
      obtain ⟨d1, r1, t1, g1, hR1, hT1⟩ := hW.mono e12
      have c1 := ev_len (K := K) (σ := (start ["self", "number", "word", "reading", "text"] [V.ref p, V.int (i : Int)]).set 2 (some (.ref u.1))) (H := H2) (ta := tFld K (tVar 2) "reading") (ev_fld (ev_var rfl) g1 T.cl T.nR (wF_reading _ _ _)) hR1
      rw [nv_length] at c1
      refine q_asgL (el_catSq (K := K) (el_lst (ea_cons c1 ea_nil) (by show 1 ≤ 100000; decide)) (ev_fld (ev_var rfl) g1 T.cl T.nR (wF_reading _ _ _)) hR1 (by rw [nv_length]; exact sz_ok (by simp; omega))) fun q3 H3 hq3 e3 h3q => ?_
      have g3 := e3 _ _ g1
      have c2 := ev_len (K := K) (σ := ((start ["self", "number", "word", "reading", "text"] [V.ref p, V.int (i : Int)]).set 2 (some (.ref u.1))).set 3 (some (.ref q3))) (H := H3) (ta := tFld K (tVar 2) "text") (ev_fld (ev_var rfl) g3 T.cl T.nT (wF_text _ _ _)) (ex_l e3 hT1)
      rw [nv_length] at c2
      refine q_asgL (el_catSq (K := K) (el_lst (ea_cons c2 ea_nil) (by show 1 ≤ 100000; decide)) (ev_fld (ev_var rfl) g3 T.cl T.nT (wF_text _ _ _)) (ex_l e3 hT1) (by rw [nv_length]; exact sz_ok (by simp; omega))) fun q4 H4 hq4 e4 h4q => ?_
      have g4 := e4 _ _ g3
      have h3q4 := e4 _ _ h3q
      have lst := el_lst (σ := (((start ["self", "number", "word", "reading", "text"] [V.ref p, V.int (i : Int)]).set 2 (some (.ref u.1))).set 3 (some (.ref q3))).set 4 (some (.ref q4))) (H := H4) (ea_cons (ev_c (v := .int 0)) (ea_cons (ev_fld (te := tVar 2) (ev_var rfl) g4 T.cl T.nL (wF_left _ _ _)) (ea_cons (ev_fld (te := tVar 2) (ev_var rfl) g4 T.cl T.nG (wF_right _ _ _)) (ea_cons (ev_fld (te := tVar 2) (ev_var rfl) g4 T.cl T.nC (wF_cost _ _ _)) ea_nil)))) (by show 4 ≤ 100000; decide)
      have cc := el_catSq (K := K) (el_catSq (K := K) lst (ev_var (i := 3) rfl) (sq_of h3q4) (by simp only [List.length_append, List.length_cons, List.length_nil, nv_length]; exact sz_ok (by omega))) (ev_var (i := 4) rfl) (sq_of h4q) (by simp only [List.length_append, List.length_cons, List.length_nil, nv_length]; exact sz_ok (by omega))
      have ee : iv (wordTold u.2) = ([V.int 0, V.int (u.2.left : Int), V.int (u.2.right : Int), V.int (u.2.cost : Int)] ++ ([V.int (u.2.reading.length : Int)] ++ nv u.2.reading)) ++ ([V.int (u.2.text.length : Int)] ++ nv u.2.text) := by
        unfold wordTold iv
        rw [nv_zi, nv_zi]
        simp
      rw [← ee] at cc
      exact ret_raw (RetX.same k hL ((e12.trans e3).trans e4) cc)
end
end So
/-! lexicon.py: number, find, begins, goes -/
namespace So
open PySem PySem.Spec PyProof.Rows L2 Evl
open PySem.W (EachIs)
section
variable {K : PySem.W.Frag} {σ : L2.St} {H : Hp} {ta tb te tl : TE} {D : Ends} {tu tz : TS}
theorem ev_ref1 {E : XK} {a : Addr} {r : List Nat} (h : Ev te σ H (.ref a)) (hA : SqL K H a (nv r)) (hz : r.length ≤ sizeLine) : Ev (tCall (spRefusal K) [] E (tCons (tLst (tCons te tNil)) tNil)) σ H (.int (rowsNum [r])) :=
  ev_callL (el_lst (ea_cons h ea_nil) (by show 1 ≤ 100000; decide)) fun p H1 e1 h1 Q hQ E => ⟨p, [(a, r)], rfl, sq_of h1, fun q hq => by
    rw [List.mem_singleton.mp hq]
    exact ex_l e1 hA, fun q hq => by
    rw [List.mem_singleton.mp hq]
    exact hz, by show 1 ≤ 1000; decide, hQ⟩
theorem ev_ref2 {E : XK} {a b : Addr} {r t : List Nat} (h : Ev ta σ H (.ref a)) (h2 : Ev tb σ H (.ref b)) (hA : SqL K H a (nv r)) (hB : SqL K H b (nv t)) (hz : r.length ≤ sizeLine) (hz2 : t.length ≤ sizeLine) : Ev (tCall (spRefusal K) [] E (tCons (tLst (tCons ta (tCons tb tNil))) tNil)) σ H (.int (rowsNum [r, t])) :=
  ev_callL (el_lst (ea_cons h (ea_cons h2 ea_nil)) (by show 2 ≤ 100000; decide)) fun p H1 e1 h1 Q hQ E => ⟨p, [(a, r), (b, t)], rfl, sq_of h1, fun q hq => by
    rcases List.mem_cons.mp hq with rfl | hq
    · exact ex_l e1 hA
    · rw [List.mem_singleton.mp hq]
      exact ex_l e1 hB, fun q hq => by
    rcases List.mem_cons.mp hq with rfl | hq
    · exact hz
    · rw [List.mem_singleton.mp hq]
      exact hz2, by show 2 ≤ 1000; decide, hQ⟩
end
section
variable {P : Program} {w : World} {K : PySem.W.Frag} {mg : Str → Option Value} {base : Heap} {CW CL : Addr}
theorem neq_zero {z : Int} (h : (!decide (V.int z = V.int 0)) = true) : z ≠ 0 := by
  intro e
  rw [e] at h
  simp at h
theorem eq_zero {z : Int} (h : (!decide (V.int z = V.int 0)) = false) : z = 0 := by
  simp at h
  exact h
/-! number -/
def spNumber (K : PySem.W.Frag) (CW CL : Addr) : Sp := fun vs H Q _ => ∃ (p a b : Addr) (L : List Sy.Word) (wl : Addr) (wr : V) (r t : List Nat), vs = [.ref p, .ref a, .ref b] ∧ LexAt K CW CL H p L wl wr ∧ Lex L ∧ SqL K H a (nv r) ∧ SqL K H b (nv t) ∧ r.length ≤ sizeLine ∧ t.length ≤ sizeLine ∧ RetX K CW CL p (saysX L (.number r t)) L wl wr H Q
theorem scNumber : FnScope ["self", "reading", "text", "refusal", "number", "word"] ["self", "reading", "text"] (defScope sNumber) := ⟨rfl, rfl, rfl, by decide +kernel, rfl, by decide +kernel, by decide +kernel⟩
theorem ok_number {f f1 : Addr} {fd fd1 : FuncData} (F : Fun K "number" "Lexicon.number" sNumber f fd) (T : TxtR K mg CW) (X : TxtX K mg CL) (Y : TxtY mg) (D1 : Dn K mg "row_refusal" sRefusal ["rows"] f1 fd1) (G1 : FnOk P w K mg base CX0 3 f1 fd1 ["rows"] (spRefusal K)) :
    FnOk P w K mg base CX0 4 f fd ["self", "reading", "text"] (spNumber K CW CL) := by
  refine F.ok scNumber (fun vs H Q E h => ?_) (fun cdv A outer s H vs Q E hr h => ?_)
  · obtain ⟨p, a, b, L, _, _, r, t, rfl, _⟩ := h
    rfl
  · obtain ⟨p, a, b, L, wl, wr, r, t, rfl, hL, hX, hA, hB, hz, hz2, k⟩ := h
    have r3 : Room 3 _ := hr.mono (by decide)
    obtain ⟨dx, ps, h1, h2, h3, h4, h5⟩ := id hL
    refine ⟨_, pss_cons (ps_set (i := 3) scNumber.nd rfl (Or.inl rfl) (pe_call G1 r3 rfl D1.g D1.kp D1.b .nil pass0 (pa_cons (pe_lst (pa_cons (pv 1) (pa_cons (pv 2) pa_nil))) pa_nil)))
      (pss_cons (ps_if (pt_cmpR op_ne (pv 3) (pe_ic Y.NR) (nomark _)) (pss_one (ps_ret (pe_lst (pa_cons (pv 3) pa_nil)))) pss_nil)
      (pss_cons (ps_for PassesOwn.never rfl (pi_enum (by rfl) X.enum (pa_cons (pe_fld (pv 0) rfl) pa_nil)) (pg_tup rfl (pgs_cons (pg_name (i := 4) scNumber.nd rfl (Or.inl rfl)) (pgs_cons (pg_name (i := 5) scNumber.nd rfl (Or.inl rfl)) pgs_nil)))
        (pss_one (ps_if (PW.pt (pw_and (pt_cmpR (op_eqDK (K := K) rfl hr.units) (pe_fld (pv 5) rfl) (pv 1) (nomark _)) (pw_and1 (pt_cmpR (op_eqDK (K := K) rfl hr.units) (pe_fld (pv 5) rfl) (pv 2) (nomark _))))) (pss_one (ps_ret (pe_lst (pa_cons (pv 4) pa_nil)))) pss_nil)))
      (pss_one (ps_ret (pe_lst (pa_cons (pe_ic Y.NF) pa_nil)))))), ?_⟩
    refine q_asg (ev_ref2 (ev_var rfl) (ev_var rfl) hA hB hz hz2) fun H1 e1 => ?_
    refine q_when (b := !decide (V.int (rowsNum [r, t]) = V.int 0)) (et_test (ev_op (ev_var rfl) ev_c (rv_ne rfl))) (fun hb H2 e2 => ?_) (fun hb H2 e2 => ?_)
    · rw [number_bad (two_some rfl (neq_zero hb))] at k
      exact ret_raw (RetX.same k hL (e1.trans e2) (el_lst (ea_cons (ev_var rfl) ea_nil) (by show 1 ≤ 100000; decide)))
    rw [number_good (two_none (eq_zero hb))] at k
    generalize rowsNum [r, t] = zz at *
    have e02 := e1.trans e2
    refine ev_fld (K := K) (te := tVar 0) (ev_var rfl) (e02 _ _ h1) X.cl X.nW (lF_words _ _) H2 (Ex.refl H2) _ fun H3 e3 => ⟨wl, refsOf ps, rfl, sq_of (e3 _ _ (e02 _ _ h2)), ?_⟩
    have e03 := e02.trans e3
    refine enum_loop (K := K) (xs := refsOf ps) (j1 := 4) (j2 := 5) (sq_of (e03 _ _ h2)) (fun i σ' H' => ∃ (v4 v5 : Option V), σ' = [some (.ref p), some (.ref a), some (.ref b), some (.int zz), v4, v5] ∧ Ex H H' ∧ ∀ j x, j < i → L[j]? = some x → (x.reading == r && x.text == t) = false)
      ⟨none, none, rfl, e03, fun j x hj _ => absurd hj (Nat.not_lt_zero _)⟩ (fun i σ' H' _ ⟨_, _, _, e, _⟩ => sq_of (e _ _ h2)) ?_ ?_
    · rintro i x σ' H' hx ⟨v4, v5, rfl, eH, hno⟩ U hU
      obtain ⟨u, hu, rfl, hu2⟩ := refs_get hx
      rw [h4] at hu2
      have eH4 := eH.trans (Ex.new (o := .tup [.int (i : Int), .ref u.1]) hU)
      generalize upd H' U (.tup [.int (i : Int), .ref u.1]) = H4 at *
      obtain ⟨d1, r1, t1, g1, hR1, hT1⟩ := (h3 u (List.mem_of_getElem? hu)).mono eH4
      refine s_when (b := u.2.reading == r && u.2.text == t) (et_and (et_test (ev_op (ev_fld (ev_var rfl) g1 T.cl T.nR (wF_reading _ _ _)) (ev_var rfl) (rv_eqRow hR1 (ex_l eH4 hA)))) fun _ => et_test (ev_op (ev_fld (ev_var rfl) g1 T.cl T.nT (wF_text _ _ _)) (ev_var rfl) (rv_eqRow hT1 (ex_l eH4 hB)))) (fun hb H5 e5 => ?_) (fun hb H5 e5 => ?_)
      · rw [number_at hu2 hb hno] at k
        exact ret_raw (RetX.same k hL (eH4.trans e5) (el_lst (ea_cons (ev_var rfl) ea_nil) (by show 1 ≤ 100000; decide)))
      · refine ⟨_, _, rfl, eH4.trans e5, fun j y hj hy => ?_⟩
        rcases Nat.lt_or_eq_of_le (Nat.le_of_lt_succ hj) with c | c
        · exact hno j y c hy
        · subst c
          rw [hu2] at hy
          cases hy
          exact hb
    · rintro σ' H' ⟨v4, v5, rfl, eH, hno⟩
      have hall : ∀ (j : Nat) (x : Sy.Word), L[j]? = some x → (x.reading == r && x.text == t) = false := fun j x hx => by
        refine hno j x ?_ hx
        have := (List.getElem?_eq_some_iff.mp hx).1
        rw [refsOf_len]
        rw [← h4, List.length_map] at this
        exact this
      rw [number_no hall] at k
      have k' : RetX K CW CL p [-5] L wl wr H Q := k
      exact el_lst (σ := []) (ea_cons ev_c ea_nil) (by show 1 ≤ 100000; decide) H' (Ex.refl H') _ fun r H2 hr e2 hr' => k' r H2 wl wr (fresh_back eH hr) hr' (ExB.of (eH.trans e2)) (hL.mono (eH.trans e2)) Lx.same
/-! find, goes -/
def spRowAsk (K : PySem.W.Frag) (CW CL : Addr) (x : Sy.Text → SyC.Call) : Sp := fun vs H Q _ => ∃ (p a : Addr) (L : List Sy.Word) (wl : Addr) (wr : V) (r : List Nat), vs = [.ref p, .ref a] ∧ LexAt K CW CL H p L wl wr ∧ Lex L ∧ SqL K H a (nv r) ∧ r.length ≤ sizeLine ∧ RetX K CW CL p (saysX L (x r)) L wl wr H Q
theorem scFind : FnScope ["self", "row", "refusal"] ["self", "row"] (defScope sFind) := ⟨rfl, rfl, rfl, by decide +kernel, rfl, by decide +kernel, by decide +kernel⟩
theorem ev_ask {E : XK} {σ : L2.St} {H : Hp} {ta tb : TE} {wl a : Addr} {ps : List (Addr × Sy.Word)} {r : List Nat} {g : List Sy.Word → Sy.Text → Nat} (h : Ev ta σ H (.ref wl)) (h2 : Ev tb σ H (.ref a)) (hB : H wl = some (.lst (refsOf ps))) (hW : WordsAt K CW H ps) (hle : ps.length ≤ 1000) (hA : SqL K H a (nv r)) :
    Ev (tCall (spAskN K CW g) [] E (tCons ta (tCons tb tNil))) σ H (.int (g (wordsOf ps) r : Int)) :=
  call2 h h2 fun H1 e1 Q hQ E => ⟨wl, a, ps, r, rfl, sq_of (e1 _ _ hB), hW.mono e1, hle, ex_l e1 hA, hQ⟩
theorem ok_find {f f1 f2 f3 : Addr} {fd fd1 fd2 fd3 : FuncData} (F : Fun K "find" "Lexicon.find" sFind f fd) (X : TxtX K mg CL) (Y : TxtY mg) (D1 : Dn K mg "row_refusal" sRefusal ["rows"] f1 fd1) (G1 : FnOk P w K mg base CX0 3 f1 fd1 ["rows"] (spRefusal K))
    (D2 : Dn K mg "count_of_reading" sCountReading ["words", "row"] f2 fd2) (G2 : FnOk P w K mg base CX0 1 f2 fd2 ["words", "row"] (spAskN K CW Sy.manyOf)) (D3 : Dn K mg "count_before" sCountBefore ["words", "row"] f3 fd3) (G3 : FnOk P w K mg base CX0 1 f3 fd3 ["words", "row"] (spAskN K CW Sy.firstOf)) :
    FnOk P w K mg base CX0 4 f fd ["self", "row"] (spRowAsk K CW CL .find) := by
  refine F.ok scFind (fun vs H Q E h => ?_) (fun cdv A outer s H vs Q E hr h => ?_)
  · obtain ⟨p, a, L, _, _, r, rfl, _⟩ := h
    rfl
  · obtain ⟨p, a, L, wl, wr, r, rfl, hL, hX, hA, hz, k⟩ := h
    have r3 : Room 3 _ := hr.mono (by decide)
    have r1 : Room 1 _ := hr.mono (by decide)
    obtain ⟨dx, ps, h1, h2, h3, h4, h5⟩ := id hL
    refine ⟨_, pss_cons (ps_set (i := 2) scFind.nd rfl (Or.inl rfl) (pe_call G1 r3 rfl D1.g D1.kp D1.b .nil pass0 (pa_cons (pe_lst (pa_cons (pv 1) pa_nil)) pa_nil)))
      (pss_cons (ps_if (pt_cmpR op_ne (pv 2) (pe_ic Y.NR) (nomark _)) (pss_one (ps_ret (pe_lst (pa_cons (pv 2) pa_nil)))) pss_nil)
      (pss_one (ps_ret (pe_lst (pa_cons (pe_call G2 r1 rfl D2.g D2.kp D2.b .nil pass0 (pa_cons (pe_fld (pv 0) rfl) (pa_cons (pv 1) pa_nil))) (pa_cons (pe_call G3 r1 rfl D3.g D3.kp D3.b .nil pass0 (pa_cons (pe_fld (pv 0) rfl) (pa_cons (pv 1) pa_nil))) pa_nil)))))), ?_⟩
    refine q_asg (ev_ref1 (ev_var rfl) hA hz) fun H1 e1 => ?_
    refine q_when (b := !decide (V.int (rowsNum [r]) = V.int 0)) (et_test (ev_op (ev_var rfl) ev_c (rv_ne rfl))) (fun hb H2 e2 => ?_) (fun hb H2 e2 => ?_)
    · rw [find_bad (one_some rfl (neq_zero hb))] at k
      exact ret_raw (RetX.same k hL (e1.trans e2) (el_lst (ea_cons (ev_var rfl) ea_nil) (by show 1 ≤ 100000; decide)))
    rw [find_good (one_none (eq_zero hb))] at k
    have e02 := e1.trans e2
    have hle : ps.length ≤ 1000 := by
      have := hX.few
      rw [← h4, List.length_map] at this
      omega
    have fw : Ev (tFld K (tVar 0) "words") ((start ["self", "row", "refusal"] [V.ref p, V.ref a]).set 2 (some (.int (rowsNum [r])))) H2 (.ref wl) := ev_fld (ev_var rfl) (e02 _ _ h1) X.cl X.nW (lF_words _ _)
    have c1 := ev_ask (K := K) (CW := CW) (E := E0) (g := Sy.manyOf) fw (ev_var (i := 1) rfl) (e02 _ _ h2) (h3.mono e02) hle (ex_l e02 hA)
    have c2 := ev_ask (K := K) (CW := CW) (E := E0) (g := Sy.firstOf) fw (ev_var (i := 1) rfl) (e02 _ _ h2) (h3.mono e02) hle (ex_l e02 hA)
    rw [h4] at c1 c2
    exact ret_raw (RetX.same k hL e02 (el_lst (ea_cons c1 (ea_cons c2 ea_nil)) (by show 2 ≤ 100000; decide)))
theorem scGoes : FnScope ["self", "row", "refusal"] ["self", "row"] (defScope sGoes) := ⟨rfl, rfl, rfl, by decide +kernel, rfl, by decide +kernel, by decide +kernel⟩
theorem ok_goes {f f1 f2 f3 : Addr} {fd fd1 fd2 fd3 : FuncData} (F : Fun K "goes" "Lexicon.goes" sGoes f fd) (X : TxtX K mg CL) (Y : TxtY mg) (D1 : Dn K mg "row_refusal" sRefusal ["rows"] f1 fd1) (G1 : FnOk P w K mg base CX0 3 f1 fd1 ["rows"] (spRefusal K))
    (D2 : Dn K mg "numbers_going_on" sNumsGoing ["words", "row"] f2 fd2) (G2 : FnOk P w K mg base CX0 2 f2 fd2 ["words", "row"] (spNums K CW)) (D3 : Dn K mg "count_before" sCountBefore ["words", "row"] f3 fd3) (G3 : FnOk P w K mg base CX0 1 f3 fd3 ["words", "row"] (spAskN K CW Sy.firstOf)) :
    FnOk P w K mg base CX0 4 f fd ["self", "row"] (spRowAsk K CW CL .goes) := by
  refine F.ok scGoes (fun vs H Q E h => ?_) (fun cdv A outer s H vs Q E hr h => ?_)
  · obtain ⟨p, a, L, _, _, r, rfl, _⟩ := h
    rfl
  · obtain ⟨p, a, L, wl, wr, r, rfl, hL, hX, hA, hz, k⟩ := h
    have r3 : Room 3 _ := hr.mono (by decide)
    have r2 : Room 2 _ := hr.mono (by decide)
    have r1 : Room 1 _ := hr.mono (by decide)
    obtain ⟨dx, ps, h1, h2, h3, h4, h5⟩ := id hL
    refine ⟨_, pss_cons (ps_set (i := 2) scGoes.nd rfl (Or.inl rfl) (pe_call G1 r3 rfl D1.g D1.kp D1.b .nil pass0 (pa_cons (pe_lst (pa_cons (pv 1) pa_nil)) pa_nil)))
      (pss_cons (ps_if (pt_cmpR op_ne (pv 2) (pe_ic Y.NR) (nomark _)) (pss_one (ps_ret (pe_lst (pa_cons (pv 2) pa_nil)))) pss_nil)
      (pss_one (ps_ret (pe_lst (pa_cons (pe_callB call_len_seq (by rfl) X.len PySem.boot_len (pa_cons (pe_call G2 r2 rfl D2.g D2.kp D2.b .nil pass0 (pa_cons (pe_fld (pv 0) rfl) (pa_cons (pv 1) pa_nil))) pa_nil)) (pa_cons (pe_call G3 r1 rfl D3.g D3.kp D3.b .nil pass0 (pa_cons (pe_fld (pv 0) rfl) (pa_cons (pv 1) pa_nil))) pa_nil)))))), ?_⟩
    refine q_asg (ev_ref1 (ev_var rfl) hA hz) fun H1 e1 => ?_
    refine q_when (b := !decide (V.int (rowsNum [r]) = V.int 0)) (et_test (ev_op (ev_var rfl) ev_c (rv_ne rfl))) (fun hb H2 e2 => ?_) (fun hb H2 e2 => ?_)
    · rw [goes_bad (one_some rfl (neq_zero hb))] at k
      exact ret_raw (RetX.same k hL (e1.trans e2) (el_lst (ea_cons (ev_var rfl) ea_nil) (by show 1 ≤ 100000; decide)))
    rw [goes_good (one_none (eq_zero hb))] at k
    have e02 := e1.trans e2
    have hle : ps.length ≤ 1000 := by
      have := hX.few
      rw [← h4, List.length_map] at this
      omega
    have fw : Ev (tFld K (tVar 0) "words") ((start ["self", "row", "refusal"] [V.ref p, V.ref a]).set 2 (some (.int (rowsNum [r])))) H2 (.ref wl) := ev_fld (ev_var rfl) (e02 _ _ h1) X.cl X.nW (lF_words _ _)
    have c1 : EvL (tCall (spNums K CW) [] E0 (tCons (tFld K (tVar 0) "words") (tCons (tVar 1) tNil))) ((start ["self", "row", "refusal"] [V.ref p, V.ref a]).set 2 (some (.int (rowsNum [r])))) H2 (nv (goers (wordsOf ps) r)) :=
      el_call (ea_cons fw (ea_cons (ev_var rfl) ea_nil)) fun H3 e3 Q' hQ E => ⟨wl, a, ps, r, rfl, sq_of (e3 _ _ (e02 _ _ h2)), h3.mono (e02.trans e3), hle, ex_l (e02.trans e3) hA, hQ⟩
    have c1 := ev_lenN (K := K) c1
    rw [nv_length, h4, goes_count] at c1
    have c2 := ev_ask (K := K) (CW := CW) (E := E0) (g := Sy.firstOf) fw (ev_var (i := 1) rfl) (e02 _ _ h2) (h3.mono e02) hle (ex_l e02 hA)
    rw [h4] at c2
    exact ret_raw (RetX.same k hL e02 (el_lst (ea_cons c1 (ea_cons c2 ea_nil)) (by show 2 ≤ 100000; decide)))
/-! begins -/
theorem scBegins : FnScope ["self", "row", "refusal", "lengths", "answer", "told"] ["self", "row"] (defScope sBegins) := ⟨rfl, rfl, rfl, by decide +kernel, rfl, by decide +kernel, by decide +kernel⟩
theorem each_at {α β : Type} {R : α → β → Prop} : ∀ {as : List α} {bs : List β} {i : Nat} {a : α}, EachIs R as bs → as[i]? = some a → ∃ b, bs[i]? = some b ∧ R a b
  | _, _, _, _, .nil, h => by simp at h
  | _, _, 0, _, .cons (b := b) r _, h => ⟨b, rfl, by
    have e := Option.some.inj h
    subst e
    exact r⟩
  | _, _, i + 1, _, .cons _ t, h => by
    obtain ⟨b, h1, h2⟩ := each_at (i := i) t (by simpa using h)
    exact ⟨b, by simpa using h1, h2⟩
theorem ok_begins {f f1 f2 : Addr} {fd fd1 fd2 : FuncData} (F : Fun K "begins" "Lexicon.begins" sBegins f fd) (X : TxtX K mg CL) (Y : TxtY mg) (D1 : Dn K mg "row_refusal" sRefusal ["rows"] f1 fd1) (G1 : FnOk P w K mg base CX0 3 f1 fd1 ["rows"] (spRefusal K))
    (D2 : Dn K mg "lengths_beginning" sLensBeg ["words", "row"] f2 fd2) (G2 : FnOk P w K mg base CX0 2 f2 fd2 ["words", "row"] (spLens K CW)) :
    FnOk P w K mg base CX0 4 f fd ["self", "row"] (spRowAsk K CW CL .begins) := by
  refine F.ok scBegins (fun vs H Q E h => ?_) (fun cdv A outer s H vs Q E hr h => ?_)
  · obtain ⟨p, a, L, _, _, r, rfl, _⟩ := h
    rfl
  · obtain ⟨p, a, L, wl, wr, r, rfl, hL, hX, hA, hz, k⟩ := h
    have r3 : Room 3 _ := hr.mono (by decide)
    have r2 : Room 2 _ := hr.mono (by decide)
    obtain ⟨dx, ps, h1, h2, h3, h4, h5⟩ := id hL
    refine ⟨_, pss_cons (ps_set (i := 2) scBegins.nd rfl (Or.inl rfl) (pe_call G1 r3 rfl D1.g D1.kp D1.b .nil pass0 (pa_cons (pe_lst (pa_cons (pv 1) pa_nil)) pa_nil)))
      (pss_cons (ps_if (pt_cmpR op_ne (pv 2) (pe_ic Y.NR) (nomark _)) (pss_one (ps_ret (pe_lst (pa_cons (pv 2) pa_nil)))) pss_nil)
      (pss_cons (ps_set (i := 3) scBegins.nd rfl (Or.inl rfl) (pe_call G2 r2 rfl D2.g D2.kp D2.b .nil pass0 (pa_cons (pe_fld (pv 0) rfl) (pa_cons (pv 1) pa_nil))))
      (pss_cons (ps_set (i := 4) scBegins.nd rfl (Or.inl rfl) (pe_lst (pa_cons (pe_callB call_len_seq (by rfl) X.len PySem.boot_len (pa_cons (pv 3) pa_nil)) pa_nil)))
      (pss_cons (ps_for PassesOwn.never rfl (pi_list (pv 3)) (pg_name (i := 5) scBegins.nd rfl (Or.inl rfl))
        (pss_one (ps_expr (pe_bm PySem.F.plainAttrs_list PySem.F.slot_list_extend PySem.F.type_list_extend mt_extend (pv 4) (pa_cons (pv 5) pa_nil)))))
      (pss_one (ps_ret (pv 4))))))), ?_⟩
    refine q_asg (ev_ref1 (ev_var rfl) hA hz) fun H1 e1 => ?_
    refine q_when (b := !decide (V.int (rowsNum [r]) = V.int 0)) (et_test (ev_op (ev_var rfl) ev_c (rv_ne rfl))) (fun hb H2 e2 => ?_) (fun hb H2 e2 => ?_)
    · rw [begins_bad (one_some rfl (neq_zero hb))] at k
      exact ret_raw (RetX.same k hL (e1.trans e2) (el_lst (ea_cons (ev_var rfl) ea_nil) (by show 1 ≤ 100000; decide)))
    have hrf := one_none (eq_zero hb)
    rw [begins_good hrf] at k
    have hr64 : r.length ≤ 64 := by
      unfold rowFault at hrf
      split at hrf
      · cases hrf
      · omega
    have e02 := e1.trans e2
    have hle : ps.length ≤ 1000 := by
      have := hX.few
      rw [← h4, List.length_map] at this
      omega
    refine ⟨_, rfl, p, CL, dx, _, .ref wl, rfl, e02 _ _ h1, X.cl, X.nW, lF_words _ _, _, rfl, wl, a, ps, r, rfl, sq_of (e02 _ _ h2), h3.mono e02, hle, by rw [h4]; exact hX.order, ?_, ex_l e02 hA, by omega, fun l as H4 hl e4 hll hT => ?_⟩
    · rw [h4]
      intro x hx
      exact (ok_ne (hX.ok x hx)).1
    rw [h4] at hT
    have e04 := e02.trans e4
    have few := begins_few (L := L) (r := r)
    have hlas := hT.length
    have len := ev_len (K := K) (σ := ((start ["self", "row", "refusal", "lengths", "answer", "told"] [V.ref p, V.ref a]).set 2 (some (.int (rowsNum [r])))).set 3 (some (.ref l))) (H := H4) (ta := tVar 3) (ev_var rfl) (sq_of hll)
    rw [List.length_map, hlas] at len
    refine q_asgL (el_lst (ea_cons len ea_nil) (by show 1 ≤ 100000; decide)) fun q H5 hq e5 h5q => ?_
    have hll5 := e5 _ _ hll
    have hT5 : Threes H2 H5 l as (Sy.beginsHere L r) := hT.mono fun c t z => ⟨e5 _ _ z.1, z.2⟩
    have three : ∀ i, (((Sy.beginsHere L r).take i).flatten).length ≤ 3 * i := by
      intro i
      rw [List.length_flatten]
      have : ∀ (ts : List (List Nat)), (∀ t ∈ ts, t.length = 3) → (ts.map List.length).sum = 3 * ts.length := by
        intro ts
        induction ts with
        | nil => intro _; rfl
        | cons t ts ih =>
          intro h
          rw [List.map_cons, List.sum_cons, ih (fun x hx => h x (List.mem_cons_of_mem _ hx)), h t List.mem_cons_self, List.length_cons]
          omega
      rw [this _ fun t ht => by
        obtain ⟨x, y, z, rfl⟩ := begins_three (List.mem_of_mem_take ht)
        rfl, List.length_take]
      omega
    refine q_forLn (K := K) (a := l) (xs := as.map V.ref) (ev_var rfl) (sq_of hll5) (fun i σ' H' => ∃ v5 : Option V, σ' = [some (.ref p), some (.ref a), some (.int (rowsNum [r])), some (.ref l), some (.ref q), v5] ∧ Ex H4 H' ∧ H' q = some (.lst (iv (((Sy.beginsHere L r).length : Int) :: zi ((Sy.beginsHere L r).take i).flatten))))
      (fun H6 e6 => ⟨none, rfl, e5.trans e6, by rw [List.take_zero]; exact e6 _ _ h5q⟩) (fun i σ' H' _ ⟨_, _, e, _⟩ => sq_of (e _ _ hll)) ?_ ?_
    · rintro i x σ' H' hx ⟨v5, rfl, eH, hqq⟩
      obtain ⟨c, hc, rfl⟩ : ∃ c, as[i]? = some c ∧ x = V.ref c := by
        rw [List.getElem?_map] at hx
        cases e : as[i]? with
        | none =>
          rw [e] at hx
          cases hx
        | some c =>
          rw [e] at hx
          exact ⟨c, rfl, (Option.some.inj hx).symm⟩
      obtain ⟨t, ht, hct, _⟩ := each_at hT hc
      refine s_ext hqq (ev_var rfl) (ev_var rfl) (eH _ _ hct) ?_ fun H6 e6 => ⟨_, rfl, Ex.mut (eH.trans e6) hq, ?_⟩
      · have h3 := three i
        have h4 := three (i + 1)
        have hi := (List.getElem?_eq_some_iff.mp ht).1
        obtain ⟨y1, y2, y3, rfl⟩ := begins_three (List.mem_of_getElem? ht)
        unfold zi
        simp only [List.length_map, List.length_cons, List.length_nil]
        exact sz_ok (by omega)
      · rw [upd_same, take_succ_of ht, List.flatten_append]
        unfold iv zi
        simp
    · rintro σ' H' ⟨v5, rfl, eH, hqq⟩
      rw [List.length_map, hlas, List.take_length] at hqq
      exact ⟨_, rfl, k q H' wl wr (fresh_back e04 hq) hqq (ExB.of (e04.trans eH)) (hL.mono (e04.trans eH)) Lx.same⟩
end
end So
/-! sorted(xs, key=lambda x: ..), the lambda's body reading names of the def -/
namespace So
open PySem PySem.Spec PyProof.Rows L2 Evl
open LamX (TabB TabS ExtN CodeO)
open NdefX (NF NScope CellsAt ncx startF envF Caps slotAt)
section
variable {X : Cx} {pins : List (Addr × Obj)} {σ : L2.St} {H : Hp} {s : Shared}
/-- the lambda's object is made; the maker's table may grow by its code object -/
theorem lam_made {c P : Addr} {q : Str} {params : Arguments} {body : Expr} {scope : Scope} {pos : Pos} {E R : Value → Shared → Prop} (I : Inv X pins σ H s) (TB : TabB X.base X.mg c P) (hcode : X.env.code = .ref c) (hq : X.env.qual ++ "<lambda>" = q) (hT : TabS H P q) (hdef : defaultsOf params X.env = ([], []))
    (hfree : ∀ y ∈ scope.names, y.2 = .free → ∃ c, X.env.cells.lookup y.1 = some c)
    (go : ∀ (f c' : Addr) (pm ctv : Value) (H1 : Hp) (s1 : Shared), Inv X pins σ H1 s1 → ExtN H H1 → (∀ b, H1 b = none → H b = none) → TabS H1 P q → s1.heap.get? f = some (PySem.W.kla_obj "<lambda>" q params body scope (cloFrom X.env.cells scope.names []) pm c' ctv) → H1 f = none → f ∉ frs X.stack → H1 c' = some (CodeO c' q) → R (.ref f) s1) :
    wpAny (model X.prog X.w) X.A (eval (.Lambda params body scope pos) X.env) R E s := by
  subst hq
  obtain ⟨cs, atP, tri, told⟩ := hT
  have bb : s.heap.BuiltinsAt X.mg P := TB.bm.keeps I.bk
  have op : s.heap.get? P = some { cls := .none, data := .fields cs } := I.hok P _ atP
  have apart : ∀ g, s.heap.objs.size ≤ g → g ∉ frs X.stack := fun g hg z => by
    rcases List.mem_cons.mp (I.stkSub _ z) with e | e
    · have := I.lt
      rw [← e] at this
      exact Nat.lt_irrefl _ (Nat.lt_of_lt_of_le this hg)
    · exact I.nofs hg e
  refine PySem.W.kla_eval hdef ?_
  cases hit : codeAmong pos cs.toList with
  | some cv =>
    obtain ⟨c', rfl, hco⟩ := told pos cv hit
    refine PySem.W.kla_makeFunctionHit (c := c) (P := P) (ps := cs) (mg := X.mg) (closure_ok hfree) I.ok.glob (I.mod.glob.keeps I.bk) hcode (TB.code.keeps I.bk) op tri hit bb fun ctv h2 tk kp ge => ?_
    have I1 : Inv X pins σ H { s with heap := h2.push (PySem.W.kla_obj "<lambda>" (X.env.qual ++ "<lambda>") params body scope (cloFrom X.env.cells scope.names []) ((X.mg "__name__").getD .none) c' ctv), toks := tk } := I.kept fun b o e => Heap.get?_push_of_some _ (kp b o e)
    exact go h2.objs.size c' _ ctv H _ I1 (ExtN.refl H) (fun b e => e) ⟨cs, atP, tri, told⟩ (Heap.get?_push_size _ rfl) (I.hok.fresh ge) (apart _ ge) hco
  | none =>
    refine PySem.W.kla_makeFunction (c := c) (P := P) (ps := cs) (mg := X.mg) (closure_ok hfree) I.ok.glob (I.mod.glob.keeps I.bk) hcode (TB.code.keeps I.bk) op tri hit TB.gP bb fun c' ctv h2 tk kp ge lt ⟨c2, oc, us, t, e2, hoc, hd, hv⟩ htb => ?_
    cases e2
    have nc : H c' = none := I.hok.fresh ge
    have le : s.heap.objs.size ≤ h2.objs.size := Nat.le_of_lt (Nat.lt_of_le_of_lt ge lt)
    have I1 := LamX.inv_table (t' := tk) (more := #[rawInt pos.line, rawInt pos.col, .ref c']) (h' := h2.push (PySem.W.kla_obj "<lambda>" (X.env.qual ++ "<lambda>") params body scope (cloFrom X.env.cells scope.names []) ((X.mg "__name__").getD .none) c' ctv)) (q := X.env.qual ++ "<lambda>") I atP
      (fun b o nb e => Heap.get?_push_of_some _ (kp b o nb e)) (Heap.get?_push_of_some _ htb) ge ⟨oc, us, t, Heap.get?_push_of_some _ hoc, hd, hv⟩
    have ext : ExtN H (upd (upd H P (.tbl (cs ++ #[rawInt pos.line, rawInt pos.col, .ref c']))) c' (CodeO c' (X.env.qual ++ "<lambda>"))) := fun b o e n => by
      have n1 : b ≠ c' := ne_of_none e nc
      have n2 : b ≠ P := fun z => by
        subst z
        rw [atP] at e
        exact n cs (Option.some.inj e).symm
      rw [upd_ne n1, upd_ne n2]
      exact e
    have back : ∀ b, upd (upd H P (.tbl (cs ++ #[rawInt pos.line, rawInt pos.col, .ref c']))) c' (CodeO c' (X.env.qual ++ "<lambda>")) b = none → H b = none := fun b e => NdefX.upd_none (NdefX.upd_none e)
    have lst : (cs ++ #[rawInt pos.line, rawInt pos.col, .ref c']).toList = cs.toList ++ [rawInt pos.line, rawInt pos.col, .ref c'] := by simp
    refine go h2.objs.size c' _ ctv _ _ I1 ext back ⟨_, (upd_ne (ne_of_none atP nc)).trans upd_same, ?_, fun p2 cv hcv => ?_⟩ (Heap.get?_push_size _ rfl) ?_ (apart _ le) upd_same
    · rw [lst]
      exact PySem.TriplesOk_snoc _ _ _ _ tri
    · rw [lst] at hcv
      rcases LamX.among_app _ tri hcv with z | z
      · obtain ⟨c0, z1, z2⟩ := told p2 cv z
        exact ⟨c0, z1, ext _ _ z2 LamX.codeO_ne⟩
      · exact ⟨c', z, upd_same⟩
    · have m1 : h2.objs.size ≠ c' := Nat.ne_of_gt lt
      have m2 : h2.objs.size ≠ P := Nat.ne_of_gt (Nat.lt_of_lt_of_le (Heap.lt_size op) le)
      rw [upd_ne m1, upd_ne m2]
      exact I.hok.fresh le
/-- what a lambda of one parameter is, as a made function -/
abbrev lamF (q : Str) (params : Arguments) (scope : Scope) (cl : List (Str × Addr)) (c' : Addr) : NF := ⟨"<lambda>", q, params, [], scope, cl, c'⟩
/-- .. called -/
theorem run_lam {f c' : Addr} {q a : Str} {params : Arguments} {body : Expr} {scope : Scope} {cl : List (Str × Addr)} {pm ctv : Value} {N fr : List Str} {ws : List (Option V)} {Q : VK} {x : V} {u : Value} {k : Nat} {tb : TE} (I : Inv X pins σ H s)
    (hf : s.heap.get? f = some (PySem.W.kla_obj "<lambda>" q params body scope cl pm c' ctv)) (hc : H c' = some (CodeO c' q)) (S : NScope N [a] fr scope) (C : CellsAt cl fr ws s.heap H)
    (hb : bindArgs (PySem.W.kla_fn "<lambda>" q params body scope cl pm (.ref c') ctv) ⟨[u], []⟩ = pure [(a, u)]) (r : L2.RelV x u) (hr : Room (k + 1) X.A)
    (hbody : ∀ (A : Around) (outer : List Env) (s : Shared) (H : Hp), Room k (A.deeper (envF (lamF q params scope cl c') f s.heap.objs.size)) → PE (ncx CX0 X.prog X.w X.K X.mg X.base N (lamF q params scope cl c') f A outer s H E0) body tb)
    (h : tb (startF N [x] ws) H Q) : wpAny (model X.prog X.w) X.A (call (.ref f) [u]) (EP X pins σ Q) X.xe s := by
  have rc : codeAny (model X.prog X.w) X.A (.call (.ref f) ⟨[u], []⟩) (CR CX0 X.stack X.prog X.w H s Q E0) s := by
    refine PySem.W.kla_callFunE hr.depth hf rfl S.co S.gen rfl (NdefX.codeO_at I.hok hc) ?_
    rw [hb]
    refine wpAny_pure (wpAny_newFunctionEnv S.nocell (fun ⟨n, _⟩ hy => S.par n (by
      have := List.mem_singleton.mp hy
      cases this
      exact List.mem_singleton.mpr rfl)) (fun h1 hns hsb => ⟨I.nolimit.fresh _ hsb, ?_⟩) S.kind)
    have kp : ∀ b o, s.heap.get? b = some o → h1.get? b = some o := fun b o e => hsb.extBut b o (Nat.ne_of_lt (Heap.lt_size e)) (Heap.get?_push_of_some _ e)
    have J := NdefX.inv_startN (CX := CX0) (P := X.prog) (w := X.w) (K := X.K) (mg := X.mg) (base := X.base) (N := N) (ps := [a]) (F := lamF q params scope cl c') (f := f) (A := X.A) (outer := X.stack) (E := E0) (us := [u]) (vs := [x]) (tk := s.toks + 1) S hr.hd I.env0 rfl (.cons r .nil) C hns kp
    show codeAny _ _ (.expr body (envF (lamF q params scope cl c') f s.heap.objs.size)) _ _
    refine PySem.W.kla_codeExpr (wpAny_mono ((hbody X.A X.stack s H (hr.deeper _)).run [] _ _ H Q J h) (fun v s2 hq => ?_) fun e s2 hq => hq)
    obtain ⟨y, H2, J2, rv, hq⟩ := hq
    exact ⟨y, H2, J2.os, J2.bare, J2.base, J2.hok, rv, hq⟩
  refine wpAny_call (codeAny_mono rc fun r s2 hq => ?_)
  cases r with
  | error e => exact (pass0 (X := X) pins σ H s e s2 I hq)
  | ok fl =>
    cases fl with
    | ret u => exact I.after hq
    | next => exact False.elim hq
    | brk => exact False.elim hq
    | cont => exact False.elim hq
end
/-- the reading of sorted(e, key=lambda a: body): q, the lambda's name; js, where the names that it reads stand -/
def tSortLam (K : PySem.W.Frag) (P : Addr) (q : Str) (te : TE) (N : List Str) (js : List Nat) (tb : TE) : TE := fun σ H Q => te σ H fun v H1 => ∃ (l : Addr) (ps : List (V × PyData)), v = .ref l ∧ SqL K H1 l (ps.map Prod.fst) ∧ PySem.W.AllAlike (ps.map Prod.snd) ∧ PySem.W.Sortable (ps.map Prod.snd) ∧ (∀ p ∈ ps, p.2.depth ≤ 32) ∧ TabS H1 P q ∧
  ∀ H2, ExtN H1 H2 → (∀ b, H2 b = none → H1 b = none) → TabS H2 P q → (∀ p ∈ ps, ∀ H3, Ex H2 H3 → ∀ Q' : VK, (∀ y H4, Ex H3 H4 → Dp K H4 y p.2 → Q' y H4) → tb (startF N [p.1] (js.map (slotAt σ))) H3 Q') ∧
    ∀ z H3, H2 z = none → Ex H2 H3 → H3 z = some (.lst ((ps.mergeSort (PySem.W.dataLe false Prod.snd)).map Prod.fst)) → Q (.ref z) H3
theorem pe_sortLam {X : Cx} {c P : Addr} {q a x : Str} {k : Nat} {N fr : List Str} {js : List Nat} {params : Arguments} {body e : Expr} {scope : Scope} {te tb : TE} {p pos lpos kpos : Pos} (hx : x = "sorted") (hg : Gl X x) (hm : X.mg x = none) (ha : PE X e te)
    (TB : TabB X.base X.mg c P) (hcode : X.env.code = .ref c) (hq : X.env.qual ++ "<lambda>" = q) (hr : Room (k + 3) X.A) (S : NScope N [a] fr scope) (hfree : ∀ y ∈ scope.names, y.2 = .free → X.env.scope.names.lookup y.1 = some .cell ∨ X.env.scope.names.lookup y.1 = some .free)
    (hfr : ∀ y ∈ fr, (y, NameKind.free) ∈ scope.names) (hjs : js.map (fun j => X.N[j]?) = fr.map some) (hdef : defaultsOf params X.env = ([], []))
    (hb : ∀ (q : Str) (cl : List (Str × Addr)) (pm cv ctv u : Value), bindArgs (PySem.W.kla_fn "<lambda>" q params body scope cl pm cv ctv) ⟨[u], []⟩ = pure [(a, u)])
    (hst : frs X.stack = X.env.locals :: X.fs)
    (hbody : ∀ (f c' : Addr) (A : Around) (outer : List Env) (s : Shared) (H : Hp), Room k (A.deeper (envF (lamF q params scope (cloFrom X.env.cells scope.names []) c') f s.heap.objs.size)) → PE (ncx CX0 X.prog X.w X.K X.mg X.base N (lamF q params scope (cloFrom X.env.cells scope.names []) c') f A outer s H E0) body tb)
    (he : backTo pos (starEach [e] X.env) = (false, eval e X.env) :: backTo pos (starEach [] X.env) := by rfl) (hpl : (backTo pos (starEach [e] X.env)).any (·.1) = false := by rfl) :
    PE X (.Call (.Name x p) [e] [⟨some "key", .Lambda params body scope lpos, kpos⟩] pos) (tSortLam X.K P q te N js tb) := by
  subst hx
  refine ⟨fun pins s σ H Q I h => ?_⟩
  have bs : bootBuiltins (Str.ofString "sorted") = some (.builtin "sorted") := by decide +kernel
  refine wpAny_Call_Name_kw (ld_blt I hg hm bs ?_)
  refine PyProof.Rows.callWith_kw ?_ he hpl
  rw [he]
  refine Calls.spliced_cons (thn (ha.run pins s σ H _ I h) fun u s1 ⟨v, H1, I1, r1, q1⟩ => ?_)
  obtain ⟨l, ps, rfl, hs, hal, hsk, hd, hT, q1⟩ := q1
  obtain rfl : u = Value.ref l := r1
  refine Calls.spliced_nil ?_
  show wpAny _ _ (evalAll [do
    let v ← eval (.Lambda params body scope lpos) X.env
    standAt pos
    pure v]) _ _ _
  have has : ∀ y ∈ scope.names, y.2 = .free → ∃ c, X.env.cells.lookup y.1 = some c := fun y hy e => (hfree y hy e).elim (fun z => I1.ok.has _ (.inl z)) fun z => I1.ok.has _ (.inr z)
  refine wpAny_evalAll_cons (wpAny_bind (lam_made I1 TB hcode hq hT hdef has fun f c' pm ctv H2 s2 I2 eN nn hT2 hf hfn hfs hco => wpAny_bind (wpAny_standAt (wpAny_pure ?_))))
  refine wpAny_evalAll_nil ?_
  show wpAny _ _ (call (.builtin "sorted") [.ref l] [(Str.ofString "key", .ref f)]) _ _ s2
  obtain ⟨turn, fin⟩ := q1 H2 eN nn hT2
  have nst : f ≠ X.env.locals ∧ f ∉ X.fs := by
    rw [hst] at hfs
    exact ⟨fun z => hfs (z ▸ List.mem_cons_self), fun z => hfs (List.mem_cons_of_mem _ z)⟩
  have I3 := I2.pins_of (pins' := (f, PySem.W.kla_obj "<lambda>" q params body scope (cloFrom X.env.cells scope.names []) pm c' ctv) :: pins) fun p hp => by
    rcases List.mem_cons.mp hp with rfl | hp
    · exact ⟨hf, hfn, nst.1, nst.2, fun v z => nomatch z⟩
    · exact I2.pin p (List.mem_append_right _ hp)
  have cp : ∀ Y : Cx, Y.env = X.env → Y.N = X.N → Y.Ok → Caps Y (cloFrom X.env.cells scope.names []) fr js := fun Y e1 e2 ok => by
    rw [← e1]
    exact Caps.made ok (by rw [e1]; exact hfree) hfr (by rw [e2]; exact hjs)
  have hr2 : Room (k + 1) X.A.in1.in1 := Room.in1 (k := k + 1) (Room.in1 (k := k + 2) hr)
  refine wpAny_mono (sort_run (j := k + 1) hr I3 (sqn eN hs) hal hsk hd (fun p hp pins' Hi s3 u I4 hsub eH rx => ?_) fin) (fun v s3 hq => ?_) fun _ _ z => z
  · have pf := I4.pin (f, PySem.W.kla_obj "<lambda>" q params body scope (cloFrom X.env.cells scope.names []) pm c' ctv) (List.mem_append_right _ (hsub _ List.mem_cons_self))
    exact run_lam (X := inTwo X) I4 pf.1 (eH _ _ hco) S (NdefX.cells_of I4 (cp (inTwo X) rfl rfl I4.ok)) (hb _ _ _ _ _ u) rx hr2 (fun A outer s H hr3 => hbody f c' A outer s H hr3) (turn p hp Hi eH _ fun y H4 e4 d4 => ⟨e4, d4⟩)
  · obtain ⟨y, H4, I4, ry, hq⟩ := hq
    exact ⟨y, H4, I4.pins_of fun p hp => I4.pin p (List.mem_append_right _ (List.mem_cons_of_mem _ hp)), ry, hq⟩
end So
/-! asked.py: numbers_by_likelihood; lexicon.py: likely -/
namespace So
open PySem PySem.Spec PyProof.Rows L2 Evl
open PySem.W (EachIs)
open LamX (TabB TabS ExtN CodeO)
abbrev sNumsLike : Stmt := top 25
abbrev sLikely : Stmt := inClass sLexicon 13
/-- the numbers with what they are sorted by -/
def likePs (L : List Sy.Word) (r : Sy.Text) : List (V × PyData) := (goers L r).map fun (i : Nat) => (V.int (i : Int), likeD (wAt L i))
theorem likePs_fst (L : List Sy.Word) (r : Sy.Text) : (likePs L r).map Prod.fst = nv (goers L r) := by
  unfold likePs
  rw [List.map_map]
  rfl
theorem likePs_snd {L : List Sy.Word} {r : Sy.Text} {d : PyData} (h : d ∈ (likePs L r).map Prod.snd) : ∃ w, d = likeD w := by
  unfold likePs at h
  rw [List.map_map] at h
  obtain ⟨i, _, rfl⟩ := List.mem_map.mp h
  exact ⟨_, rfl⟩
theorem likePs_sorted (L : List Sy.Word) (r : Sy.Text) : (((likePs L r).mergeSort (PySem.W.dataLe false Prod.snd)).map Prod.fst) = nv (likeNums L r) := by
  have e : (likeNums L r).map (fun (i : Nat) => (V.int (i : Int), likeD (wAt L i))) = (likePs L r).mergeSort (PySem.W.dataLe false Prod.snd) := by
    refine List.map_mergeSort fun a _ b _ => ?_
    rw [PySem.W.dataLe_eq]
    show likeLe (wAt L a) (wAt L b) = !PySem.W.dataLt (likeD (wAt L b)) (likeD (wAt L a))
    rw [dataLt_like]
    rfl
  rw [← e, List.map_map]
  rfl
section
variable {P : Program} {w : World} {K : PySem.W.Frag} {mg : Str → Option Value} {base : Heap} {CW CL tP cP : Addr}
def spLikeNums (K : PySem.W.Frag) (CW tP : Addr) : Sp := fun vs H Q _ => ∃ (b a : Addr) (ps : List (Addr × Sy.Word)) (r : List Nat), vs = [.ref b, .ref a] ∧ SqL K H b (refsOf ps) ∧ WordsAt K CW H ps ∧ ps.length ≤ 1000 ∧ InOrder (wordsOf ps) ∧ SqL K H a (nv r) ∧ TabS H tP lamQ ∧
  ∀ (z : Addr) (H' : Hp), H z = none → ExtN H H' → (∀ b, H' b = none → H b = none) → TabS H' tP lamQ → H' z = some (.lst (nv (Sy.likeliest (wordsOf ps) r))) → Q (.ref z) H'
theorem scLikeNums : FnScope ["words", "row"] ["words", "row"] (defScope sNumsLike) := ⟨rfl, rfl, rfl, by decide +kernel, rfl, by decide +kernel, by decide +kernel⟩
theorem ok_likeNums {f f1 f2 : Addr} {fd fd1 fd2 : FuncData} (D : Dn K mg "numbers_by_likelihood" sNumsLike ["words", "row"] f fd) (hcode : fd.code = .ref cP) (TB : TabB base mg cP tP) (hs : mg "sorted" = none)
    (D1 : Dn K mg "numbers_going_on" sNumsGoing ["words", "row"] f1 fd1) (G1 : FnOk P w K mg base CX0 2 f1 fd1 ["words", "row"] (spNums K CW))
    (D2 : Dn K mg "likely_order_of" sLikeOrder ["word"] f2 fd2) (G2 : FnOk P w K mg base CX0 1 f2 fd2 ["word"] (spLike K CW)) :
    FnOk P w K mg base CX0 5 f fd ["words", "row"] (spLikeNums K CW tP) := by
  obtain ⟨oc, od, kV, doc, pm, an, cdv, ct, osl, rfl, lk, hcd⟩ := D.F.ex
  obtain rfl : cdv = .ref cP := hcode
  refine fn_of lk hcd scLikeNums (fun vs H Q E h => ?_) (fun A outer s H vs Q E hr h => ?_)
  · obtain ⟨b, a, ps, r, rfl, _⟩ := h
    rfl
  · obtain ⟨b, a, ps, r, rfl, hB, hW, hle, hO, hA, hT, k⟩ := h
    have r2 : Room 2 _ := hr.mono (by decide)
    refine ⟨_, pss_one (ps_ret (pe_sortLam (P := tP) (c := cP) (k := 1) (q := lamQ) (a := "number") (N := ["number", "words"]) (fr := ["words"]) (js := [0]) (tb := tCall (spLike K CW) [] E0 (tCons (tOp (rIxL K) (tVar 1) (tVar 0)) tNil)) rfl rfl hs
      (pe_call G1 r2 rfl D1.g D1.kp D1.b .nil pass0 (pa_cons (pv 0) (pa_cons (pv 1) pa_nil))) TB rfl lamQ_is hr (NdefX.nscope_by (by decide +kernel)) (NdefX.ndef_free (sc := defScope sNumsLike) (fr := ["words"]) (by decide +kernel)) (NdefX.ndef_fr (sc := defScope sNumsLike) (by decide +kernel)) rfl rfl (fun _ _ _ _ _ _ => rfl) rfl
      (fun f c' A outer s H hr3 => pe_call G2 hr3 rfl D2.g D2.kp D2.b .nil pass0 (pa_cons (pe_ix ix_list (pv 1) (pv 0) (fun _ _ => rfl)) pa_nil)))), ?_⟩
    refine ⟨_, rfl, _, rfl, b, a, ps, r, rfl, hB, hW, hle, hA, fun z H1 hz e1 h1 => ?_⟩
    refine ⟨z, likePs (wordsOf ps) r, rfl, by rw [likePs_fst]; exact sq_of h1, fun d hd d' hd' => ?_, .inl fun d hd => ?_, fun p hp => ?_, tab_ex e1 hT, fun H2 eN nn hT2 => ⟨fun p hp H3 e3 Q' hQ => ?_, fun z2 H3 hz3 e3 h3 => ?_⟩⟩
    · obtain ⟨w1, rfl⟩ := likePs_snd hd
      obtain ⟨w2, rfl⟩ := likePs_snd hd'
      exact alike_like w1 w2
    · obtain ⟨w1, rfl⟩ := likePs_snd hd
      exact ⟨_, _, rfl⟩
    · obtain ⟨w1, e⟩ := likePs_snd (List.mem_map_of_mem (f := Prod.snd) hp)
      rw [e, depth_like]
      decide
    · obtain ⟨i, hi, rfl⟩ := List.mem_map.mp hp
      have hwi := goers_at hi
      have hip : i < ps.length := by
        have := (List.getElem?_eq_some_iff.mp hwi).1
        rwa [List.length_map] at this
      have hr1 : (refsOf ps)[i]? = some (V.ref ps[i].1) := by rw [List.getElem?_map, List.getElem?_eq_getElem hip]; rfl
      have hu : (wordsOf ps)[i]? = some ps[i].2 := by rw [List.getElem?_map, List.getElem?_eq_getElem hip]; rfl
      have hw2 : wAt (wordsOf ps) i = ps[i].2 := wAt_some hu
      have e2 := (ext_n e1).trans (eN.trans (ext_n e3))
      refine ⟨.ref b, rfl, .int (i : Int), rfl, b, refsOf ps, (i : Int), V.ref ps[i].1, rfl, rfl, sqn e2 hB, atI_nat hr1, ps[i].1, ps[i].2, rfl, word_n e2 (hW _ (List.getElem_mem hip)), fun y H4 e4 d4 => hQ y H4 e4 ?_⟩
      show Dp K H4 y (likeD (wAt (wordsOf ps) i))
      rw [hw2]
      exact d4
    · rw [likePs_sorted, likeNums_is hO] at h3
      exact k z2 H3 (fresh_back e1 (nn _ hz3)) ((ext_n e1).trans (eN.trans (ext_n e3))) (fun c hc => fresh_back e1 (nn _ (fresh_back e3 hc))) (tab_ex e3 hT2) h3
/-! likely -/
/-- a method's end where a table may have grown -/
def RetT (K : PySem.W.Frag) (CW CL tP : Addr) (p : Addr) (ns : List Int) (L : List Sy.Word) (wl : Addr) (wr : V) (H : Hp) (Q : VK) : Prop := ∀ (r : Addr) (H' : Hp), H r = none → H' r = some (.lst (iv ns)) → ExtN H H' → TabS H' tP lamQ → LexAt K CW CL H' p L wl wr → Q (.ref r) H'
def spLikely (K : PySem.W.Frag) (CW CL tP : Addr) : Sp := fun vs H Q _ => ∃ (p a : Addr) (L : List Sy.Word) (wl : Addr) (wr : V) (r : List Nat) (i : Nat), vs = [.ref p, .int (i : Int), .ref a] ∧ LexAt K CW CL H p L wl wr ∧ Lex L ∧ SqL K H a (nv r) ∧ r.length ≤ sizeLine ∧ TabS H tP lamQ ∧ RetT K CW CL tP p (saysX L (.likely r i)) L wl wr H Q
theorem scLikely : FnScope ["self", "rank", "row", "refusal", "numbers"] ["self", "rank", "row"] (defScope sLikely) := ⟨rfl, rfl, rfl, by decide +kernel, rfl, by decide +kernel, by decide +kernel⟩
theorem RetT.same {p wl : Addr} {wr : V} {ns : List Int} {L : List Sy.Word} {H H1 : Hp} {Q : VK} {te : TE} {σ : L2.St} (k : RetT K CW CL tP p ns L wl wr H Q) (hL : LexAt K CW CL H p L wl wr) (e : ExtN H H1) (nn : ∀ b, H1 b = none → H b = none) (hT : TabS H1 tP lamQ) (h : EvL te σ H1 (iv ns)) : te σ H1 Q :=
  h H1 (Ex.refl H1) _ fun r H2 hr e2 hr' => k r H2 (nn _ hr) hr' (e.trans (ext_n e2)) (tab_ex e2 hT) (lex_n (e.trans (ext_n e2)) hL)
theorem ok_likely {f f1 f2 : Addr} {fd fd1 fd2 : FuncData} (F : Fun K "likely" "Lexicon.likely" sLikely f fd) (X : TxtX K mg CL) (Y : TxtY mg) (D1 : Dn K mg "row_refusal" sRefusal ["rows"] f1 fd1) (G1 : FnOk P w K mg base CX0 3 f1 fd1 ["rows"] (spRefusal K))
    (D2 : Dn K mg "numbers_by_likelihood" sNumsLike ["words", "row"] f2 fd2) (G2 : FnOk P w K mg base CX0 5 f2 fd2 ["words", "row"] (spLikeNums K CW tP)) :
    FnOk P w K mg base CX0 6 f fd ["self", "rank", "row"] (spLikely K CW CL tP) := by
  refine F.ok scLikely (fun vs H Q E h => ?_) (fun cdv A outer s H vs Q E hr h => ?_)
  · obtain ⟨p, a, L, _, _, r, i, rfl, _⟩ := h
    rfl
  · obtain ⟨p, a, L, wl, wr, r, i, rfl, hL, hX, hA, hz, hT, k⟩ := h
    have r3 : Room 3 _ := hr.mono (by decide)
    obtain ⟨dx, ps, h1, h2, h3, h4, h5⟩ := id hL
    refine ⟨_, pss_cons (ps_set (i := 3) scLikely.nd rfl (Or.inl rfl) (pe_call G1 r3 rfl D1.g D1.kp D1.b .nil pass0 (pa_cons (pe_lst (pa_cons (pv 2) pa_nil)) pa_nil)))
      (pss_cons (ps_if (pt_cmpR op_ne (pv 3) (pe_ic Y.NR) (nomark _)) (pss_one (ps_ret (pe_lst (pa_cons (pv 3) pa_nil)))) pss_nil)
      (pss_cons (ps_set (i := 4) scLikely.nd rfl (Or.inl rfl) (pe_call G2 hr rfl D2.g D2.kp D2.b .nil pass0 (pa_cons (pe_fld (pv 0) rfl) (pa_cons (pv 2) pa_nil))))
      (pss_cons (ps_if (pt_cmpR op_ge (pv 1) (pe_callB call_len_seq (by rfl) X.len PySem.boot_len (pa_cons (pv 4) pa_nil)) (nomark _)) (pss_one (ps_ret (pe_lst (pa_cons (pe_ic Y.NF) pa_nil)))) pss_nil)
      (pss_one (ps_ret (pe_lst (pa_cons (pe_ix ix_list (pv 4) (pv 1) (fun _ _ => rfl)) pa_nil))))))), ?_⟩
    refine q_asg (ev_ref1 (ev_var rfl) hA hz) fun H1 e1 => ?_
    refine q_when (b := !decide (V.int (rowsNum [r]) = V.int 0)) (et_test (ev_op (ev_var rfl) ev_c (rv_ne rfl))) (fun hb H2 e2 => ?_) (fun hb H2 e2 => ?_)
    · rw [likely_bad (one_some rfl (neq_zero hb))] at k
      exact ret_raw (RetT.same k hL (ext_n (e1.trans e2)) (fun b hb => fresh_back (e1.trans e2) hb) (tab_ex (e1.trans e2) hT) (el_lst (ea_cons (ev_var rfl) ea_nil) (by show 1 ≤ 100000; decide)))
    have hrf := one_none (eq_zero hb)
    have e02 := e1.trans e2
    have hle : ps.length ≤ 1000 := by
      have := hX.few
      rw [← h4, List.length_map] at this
      omega
    refine ⟨_, rfl, p, CL, dx, _, .ref wl, rfl, e02 _ _ h1, X.cl, X.nW, lF_words _ _, _, rfl, wl, a, ps, r, rfl, sq_of (e02 _ _ h2), h3.mono e02, hle, by rw [h4]; exact hX.order, ex_l e02 hA, tab_ex e02 hT, fun q H3 hq e3 nn hT3 h3q => ?_⟩
    rw [h4] at h3q
    have e03 := (ext_n e02).trans e3
    have nn3 : ∀ b, H3 b = none → H b = none := fun b hb => fresh_back e02 (nn b hb)
    generalize rowsNum [r] = zz at *
    have len := ev_len (K := K) (σ := [some (.ref p), some (.int (i : Int)), some (.ref a), some (.int zz), some (.ref q)]) (H := H3) (ta := tVar 4) (ev_var rfl) (sq_of h3q)
    rw [nv_length] at len
    refine q_when (b := decide (((Sy.likeliest L r).length : Int) ≤ (i : Int))) (et_test (ev_op (ev_var rfl) len rv_I0)) (fun hb2 H4 e4 => ?_) (fun hb2 H4 e4 => ?_)
    · have hi : (Sy.likeliest L r).length ≤ i := by simp at hb2; omega
      rw [likely_none hrf hi] at k
      exact ret_raw (RetT.same k hL (e03.trans (ext_n e4)) (fun b hb => nn3 b (fresh_back e4 hb)) (tab_ex e4 hT3) (el_lst (ea_cons ev_c ea_nil) (by show 1 ≤ 100000; decide)))
    · have hi : i < (Sy.likeliest L r).length := by simp at hb2; omega
      rw [likely_some hrf (List.getElem?_eq_getElem hi)] at k
      have at_ : (nv (Sy.likeliest L r))[i]? = some (V.int ((Sy.likeliest L r)[i] : Int)) := by rw [List.getElem?_map, List.getElem?_eq_getElem hi]; rfl
      exact ret_raw (RetT.same k hL (e03.trans (ext_n e4)) (fun b hb => nn3 b (fresh_back e4 hb)) (tab_ex e4 hT3) (el_lst (ea_cons (ev_op (ev_var rfl) (ev_var rfl) (rv_ixL (sq_of (e4 _ _ h3q)) (atI_nat at_))) ea_nil) (by show 1 ≤ 100000; decide)))
end
end So
/-! words.py: the calls that only ask; answer_of, all calls -/
namespace So
open PySem PySem.Spec PyProof.Rows L2 Evl
open PySem.W (EachIs)
open LamX (TabS ExtN)
abbrev sNumberAns : Stmt := top 83
abbrev sLikelyAns : Stmt := top 84
abbrev sAsked : Stmt := top 85
structure TxtB (mg : Str → Option Value) : Prop where
  m7 : IntC mg "GET" 7
  m8 : IntC mg "NUMBER" 8
  m9 : IntC mg "FIND" 9
  m10 : IntC mg "BEGINS" 10
  m11 : IntC mg "GOES" 11
  m12 : IntC mg "LIKELY" 12
section
variable {K : PySem.W.Frag} {CW CL CG tP : Addr} {H0 H : Hp} {g a p wl : Addr} {wr : V} {cl l' : List Nat} {L : List Sy.Word} {k k0 : Nat} {Q : VK}
theorem Now.doneT {r : List Nat} {i : Nat} (N : Now K CW CL CG tP H0 g a p wl wr cl L k H) (hG0 : GivenAt CG H0 g a k0) (hd : cl.drop k = l') (K' : AnsK K CW CL CG tP H0 g a p wl wr cl l' L (.likely r i) Q) : RetT K CW CL tP p (saysX L (.likely r i)) L wl wr H Q := by
  intro z H' hz hz' e hT hL'
  exact K' z k H' wl wr (hG0.fresh N.b N.G hz) hz' (given_n e N.G) (sqn e N.S) hd hL' Lx.same ((hG0.keepL N.b).trans fun b xs h => e b _ h (fun ps y => by cases y)) hT
end
section
variable {P : Program} {w : World} {K : PySem.W.Frag} {mg : Str → Option Value} {base : Heap} {CW CL CG tP : Addr}
/-- the rest of the call m, which is taken -/
def spPart (K : PySem.W.Frag) (CW CL CG tP : Addr) (m : Nat) : Sp := fun vs H Q _ => ∃ (H0 : Hp) (g p a : Addr) (k k0 : Nat) (cl l' r0 : List Nat) (L : List Sy.Word) (wl : Addr) (wr : V) (x : SyC.Call), vs = [.ref g, .ref p] ∧ Now K CW CL CG tP H0 g a p wl wr cl L k H ∧ GivenAt CG H0 g a k0 ∧ Lex L ∧ cl.length ≤ 47000 ∧ cl.drop k = r0 ∧
  callN (m :: r0) = some (x, l') ∧ AnsK K CW CL CG tP H0 g a p wl wr cl l' L x Q
theorem len47 {cl r0 : List Nat} {k : Nat} (h : cl.length ≤ 47000) (hd : cl.drop k = r0) : r0.length ≤ 47000 := by
  have := congrArg List.length hd
  rw [List.length_drop] at this
  omega
theorem scNumberAns : FnScope ["given", "lexicon", "reading", "text"] ["given", "lexicon"] (defScope sNumberAns) := ⟨rfl, rfl, rfl, by decide +kernel, rfl, by decide +kernel, by decide +kernel⟩
theorem ok_numberAns {f fr f8 : Addr} {fd fdr fd8 : FuncData} (D : Dn K mg "number_answer" sNumberAns ["given", "lexicon"] f fd) (X : TxtG K mg CG) (Y : TxtX K mg CL)
    (MR : Mn K CG "take_row" "Given.take_row" sTakeRow ["self"] fr fdr) (GR : FnOk P w K mg base CX0 2 fr fdr ["self"] (spTakeRow K CG))
    (M8 : Mn K CL "number" "Lexicon.number" sNumber ["self", "reading", "text"] f8 fd8) (G8 : FnOk P w K mg base CX0 4 f8 fd8 ["self", "reading", "text"] (spNumber K CW CL)) :
    FnOk P w K mg base CX0 5 f fd ["given", "lexicon"] (spPart K CW CL CG tP 8) := by
  refine D.F.ok scNumberAns (fun vs H Q E h => ?_) (fun cdv A outer s H vs Q E hr h => ?_)
  · obtain ⟨_, g, p, _, _, _, _, _, _, _, _, _, _, rfl, _⟩ := h
    rfl
  · obtain ⟨H0, g, p, a, k, k0, cl, l', r0, L, wl, wr, x, rfl, N, hG0, hL, hN, hd, hc, K'⟩ := h
    have r2 : Room 2 _ := hr.mono (by decide)
    refine ⟨_, pss_cons (ps_set (i := 2) scNumberAns.nd rfl (Or.inl rfl) (pe_meth0 (pv 0) X.cl MR.m GR r2 MR.b .nil pass0))
      (pss_cons (ps_set (i := 3) scNumberAns.nd rfl (Or.inl rfl) (pe_meth0 (pv 0) X.cl MR.m GR r2 MR.b .nil pass0))
      (pss_one (ps_ret (pe_meth (pv 1) Y.cl M8.m G8 hr M8.b .nil pass0 (pa_cons (pv 2) (pa_cons (pv 3) pa_nil)))))), ?_⟩
    have hc' : ((rowN r0).bind fun q => (rowN q.2).map fun u => (SyC.Call.number q.1 u.1, u.2)) = some (x, l') := hc
    obtain ⟨⟨r, s⟩, h1, e⟩ := Option.bind_eq_some_iff.mp hc'
    obtain ⟨⟨t, u⟩, h2, e⟩ := map_some2 e
    cases e
    have h47 := len47 hN hd
    have n1 := rowN_less h1
    have n2 := rowN_less (l := s) h2
    refine take_row (K := K) rfl N.G N.S (by rw [hd]; exact h1) fun q k1 H1 _ hq b1 hG1 hS1 d1 => ?_
    have N1 := N.take b1 hG1
    refine take_row (K := K) rfl N1.G N1.S (by rw [d1]; exact h2) fun q2 k2 H2 _ hq2 b2 hG2 hS2 d2 => ?_
    have N2 := N1.take b2 hG2
    have hqs := N1.G.seq b2 (sq_of (K := K) hq)
    have ee : RetX K CW CL p (saysX L (.number r t)) L wl wr H2 Q := N2.done hG0 d2 K'
    exact ret_raw (lex_meth (i := 1) N2 rfl (by decide +kernel) (by decide +kernel) ⟨_, rfl, _, rfl, p, q, q2, L, wl, wr, r, t, rfl, N2.L, hL, hqs, sq_of hq2, sz_ok (by omega), sz_ok (by omega), ee⟩)
theorem scLikelyAns : FnScope ["given", "lexicon", "rank", "row"] ["given", "lexicon"] (defScope sLikelyAns) := ⟨rfl, rfl, rfl, by decide +kernel, rfl, by decide +kernel, by decide +kernel⟩
theorem ok_likelyAns {f fn fr f12 : Addr} {fd fdn fdr fd12 : FuncData} (D : Dn K mg "likely_answer" sLikelyAns ["given", "lexicon"] f fd) (X : TxtG K mg CG) (Y : TxtX K mg CL)
    (MN : Mn K CG "take_number" "Given.take_number" sTakeN ["self"] fn fdn) (GN : FnOk P w K mg base CX0 1 fn fdn ["self"] (spTakeN K CG))
    (MR : Mn K CG "take_row" "Given.take_row" sTakeRow ["self"] fr fdr) (GR : FnOk P w K mg base CX0 2 fr fdr ["self"] (spTakeRow K CG))
    (M12 : Mn K CL "likely" "Lexicon.likely" sLikely ["self", "rank", "row"] f12 fd12) (G12 : FnOk P w K mg base CX0 6 f12 fd12 ["self", "rank", "row"] (spLikely K CW CL tP)) :
    FnOk P w K mg base CX0 7 f fd ["given", "lexicon"] (spPart K CW CL CG tP 12) := by
  refine D.F.ok scLikelyAns (fun vs H Q E h => ?_) (fun cdv A outer s H vs Q E hr h => ?_)
  · obtain ⟨_, g, p, _, _, _, _, _, _, _, _, _, _, rfl, _⟩ := h
    rfl
  · obtain ⟨H0, g, p, a, k, k0, cl, l', r0, L, wl, wr, x, rfl, N, hG0, hL, hN, hd, hc, K'⟩ := h
    have r1 : Room 1 _ := hr.mono (by decide)
    have r2 : Room 2 _ := hr.mono (by decide)
    refine ⟨_, pss_cons (ps_set (i := 2) scLikelyAns.nd rfl (Or.inl rfl) (pe_meth0 (pv 0) X.cl MN.m GN r1 MN.b .nil pass0))
      (pss_cons (ps_set (i := 3) scLikelyAns.nd rfl (Or.inl rfl) (pe_meth0 (pv 0) X.cl MR.m GR r2 MR.b .nil pass0))
      (pss_one (ps_ret (pe_meth (pv 1) Y.cl M12.m G12 hr M12.b .nil pass0 (pa_cons (pv 2) (pa_cons (pv 3) pa_nil)))))), ?_⟩
    cases r0 with
    | nil => cases hc
    | cons i r0 =>
      have hc' : ((rowN r0).map fun q => (SyC.Call.likely q.1 i, q.2)) = some (x, l') := hc
      obtain ⟨⟨r, s⟩, h1, e⟩ := map_some2 hc'
      cases e
      have h47 := len47 hN hd
      have n1 := rowN_less h1
      simp only [List.length_cons] at h47
      refine take_number (K := K) rfl N.G N.S hd fun H1 b1 hG1 hS1 d1 => ?_
      have N1 := N.take b1 hG1
      refine take_row (K := K) rfl N1.G N1.S (by rw [d1]; exact h1) fun q k2 H2 _ hq b2 hG2 hS2 d2 => ?_
      have N2 := N1.take b2 hG2
      exact ret_raw (lex_meth (i := 1) N2 rfl (by decide +kernel) (by decide +kernel) ⟨_, rfl, _, rfl, p, q, L, wl, wr, r, i, rfl, N2.L, hL, sq_of hq, sz_ok (by omega), N2.T, N2.doneT hG0 d2 K'⟩)
/-! asked_answer -/
def spAsked (K : PySem.W.Frag) (CW CL CG tP : Addr) : Sp := fun vs H Q _ => ∃ (H0 : Hp) (g p a : Addr) (n k k0 : Nat) (cl l' r0 : List Nat) (L : List Sy.Word) (wl : Addr) (wr : V) (x : SyC.Call), vs = [.int (n : Int), .ref g, .ref p] ∧ Now K CW CL CG tP H0 g a p wl wr cl L k H ∧ GivenAt CG H0 g a k0 ∧ Lex L ∧ cl.length ≤ 47000 ∧ cl.drop k = r0 ∧
  (n ≠ 1 ∧ n ≠ 2 ∧ n ≠ 3 ∧ n ≠ 4 ∧ n ≠ 5 ∧ n ≠ 6) ∧ callN (n :: r0) = some (x, l') ∧ AnsK K CW CL CG tP H0 g a p wl wr cl l' L x Q
theorem scAsked : FnScope ["call", "given", "lexicon"] ["call", "given", "lexicon"] (defScope sAsked) := ⟨rfl, rfl, rfl, by decide +kernel, rfl, by decide +kernel, by decide +kernel⟩
theorem br_get {E : XK} {H0 H : Hp} {g a p wl : Addr} {wr : V} {cl l' r0 : List Nat} {L : List Sy.Word} {k k0 i1 i2 : Nat} {σ : L2.St} {D : Ends} {x : SyC.Call} (hL : Lex L) (N : Now K CW CL CG tP H0 g a p wl wr cl L k H) (hG0 : GivenAt CG H0 g a k0) (h0 : σ[i1]? = some (some (.ref g))) (h1 : σ[i2]? = some (some (.ref p))) (hd : cl.drop k = r0) (hc : callN (7 :: r0) = some (x, l')) (K' : AnsK K CW CL CG tP H0 g a p wl wr cl l' L x D.rt) :
    tRet (tMeth CL "get" (spGet K CW CL) [] E (tVar i2) (tCons (tMeth CG "take_number" (spTakeN K CG) [] E0 (tVar i1) tNil) tNil)) D σ H := by
  cases r0 with
  | nil => cases hc
  | cons i r =>
    cases hc
    refine ret_raw (lex_meth N h1 (by decide +kernel) (by decide +kernel) (number_of N h0 hd fun H1 N1 d1 => ?_))
    have ee : RetX K CW CL p (saysX L (.get i)) L wl wr H1 D.rt := N1.done hG0 d1 K'
    exact ⟨p, L, wl, wr, i, rfl, N1.L, hL, ee⟩
/-- a call that has one row -/
theorem br_row {E : XK} {H0 H : Hp} {g a p wl : Addr} {wr : V} {cl l' r0 : List Nat} {L : List Sy.Word} {k k0 i1 i2 : Nat} {σ : L2.St} {D : Ends} {x : SyC.Call} {m : Str} {c : Sy.Text → SyC.Call} (hm : ∀ r, thenX L (c r) = L) (m1 : (m == ("words" : Str)) = false) (m2 : (m == ("written" : Str)) = false)
    (hN : cl.length ≤ 47000) (hL : Lex L) (N : Now K CW CL CG tP H0 g a p wl wr cl L k H) (hG0 : GivenAt CG H0 g a k0) (h0 : σ[i1]? = some (some (.ref g))) (h1 : σ[i2]? = some (some (.ref p))) (hd : cl.drop k = r0) (hc : ((rowN r0).map fun q => (c q.1, q.2)) = some (x, l')) (K' : AnsK K CW CL CG tP H0 g a p wl wr cl l' L x D.rt) :
    tRet (tMeth CL m (spRowAsk K CW CL c) [] E (tVar i2) (tCons (tMeth CG "take_row" (spTakeRow K CG) [] E0 (tVar i1) tNil) tNil)) D σ H := by
  obtain ⟨⟨r, s⟩, hr, e⟩ := map_some2 hc
  cases e
  have h47 := len47 hN hd
  have n1 := rowN_less hr
  refine ret_raw (lex_meth N h1 m1 m2 (row_of N h0 (by rw [hd]; exact hr) fun q k1 H1 hq N1 d1 => ?_))
  have ee := N1.done hG0 d1 K'
  rw [hm r] at ee
  exact ⟨p, q, L, wl, wr, r, rfl, N1.L, hL, sq_of hq, sz_ok (by omega), ee⟩
theorem ok_asked {f fn fr f7 fN f9 f10 f11 fL : Addr} {fd fdn fdr fd7 fdN fd9 fd10 fd11 fdL : FuncData} (D : Dn K mg "asked_answer" sAsked ["call", "given", "lexicon"] f fd) (T : TxtB mg) (X : TxtG K mg CG) (Y : TxtX K mg CL)
    (MN : Mn K CG "take_number" "Given.take_number" sTakeN ["self"] fn fdn) (GN : FnOk P w K mg base CX0 1 fn fdn ["self"] (spTakeN K CG))
    (MR : Mn K CG "take_row" "Given.take_row" sTakeRow ["self"] fr fdr) (GR : FnOk P w K mg base CX0 2 fr fdr ["self"] (spTakeRow K CG))
    (M7 : Mn K CL "get" "Lexicon.get" sGet ["self", "number"] f7 fd7) (G7 : FnOk P w K mg base CX0 1 f7 fd7 ["self", "number"] (spGet K CW CL))
    (DN : Dn K mg "number_answer" sNumberAns ["given", "lexicon"] fN fdN) (GNA : FnOk P w K mg base CX0 5 fN fdN ["given", "lexicon"] (spPart K CW CL CG tP 8))
    (M9 : Mn K CL "find" "Lexicon.find" sFind ["self", "row"] f9 fd9) (G9 : FnOk P w K mg base CX0 4 f9 fd9 ["self", "row"] (spRowAsk K CW CL .find))
    (M10 : Mn K CL "begins" "Lexicon.begins" sBegins ["self", "row"] f10 fd10) (G10 : FnOk P w K mg base CX0 4 f10 fd10 ["self", "row"] (spRowAsk K CW CL .begins))
    (M11 : Mn K CL "goes" "Lexicon.goes" sGoes ["self", "row"] f11 fd11) (G11 : FnOk P w K mg base CX0 4 f11 fd11 ["self", "row"] (spRowAsk K CW CL .goes))
    (DL : Dn K mg "likely_answer" sLikelyAns ["given", "lexicon"] fL fdL) (GLA : FnOk P w K mg base CX0 7 fL fdL ["given", "lexicon"] (spPart K CW CL CG tP 12)) :
    FnOk P w K mg base CX0 8 f fd ["call", "given", "lexicon"] (spAsked K CW CL CG tP) := by
  refine D.F.ok scAsked (fun vs H Q E h => ?_) (fun cdv A outer s H vs Q E hr h => ?_)
  · obtain ⟨_, g, p, _, _, _, _, _, _, _, _, _, _, _, rfl, _⟩ := h
    rfl
  · obtain ⟨H0, g, p, a, n, k, k0, cl, l', r0, L, wl, wr, x, rfl, N, hG0, hL, hN, hd, ⟨z1, z2, z3, z4, z5, z6⟩, hc, K'⟩ := h
    have r1 : Room 1 _ := hr.mono (by decide)
    have r2 : Room 2 _ := hr.mono (by decide)
    have r4 : Room 4 _ := hr.mono (by decide)
    have r5 : Room 5 _ := hr.mono (by decide)
    refine ⟨_, pss_cons (ps_if (pt_cmpR op_eq (pv 0) (pe_ic T.m7) (nomark _)) (pss_one (ps_ret (pe_meth (pv 2) Y.cl M7.m G7 r1 M7.b .nil pass0 (pa_cons (pe_meth0 (pv 1) X.cl MN.m GN r1 MN.b .nil pass0) pa_nil)))) pss_nil)
      (pss_cons (ps_if (pt_cmpR op_eq (pv 0) (pe_ic T.m8) (nomark _)) (pss_one (ps_ret (pe_call GNA r5 rfl DN.g DN.kp DN.b .nil pass0 (pa_cons (pv 1) (pa_cons (pv 2) pa_nil))))) pss_nil)
      (pss_cons (ps_if (pt_cmpR op_eq (pv 0) (pe_ic T.m9) (nomark _)) (pss_one (ps_ret (pe_meth (pv 2) Y.cl M9.m G9 r4 M9.b .nil pass0 (pa_cons (pe_meth0 (pv 1) X.cl MR.m GR r2 MR.b .nil pass0) pa_nil)))) pss_nil)
      (pss_cons (ps_if (pt_cmpR op_eq (pv 0) (pe_ic T.m10) (nomark _)) (pss_one (ps_ret (pe_meth (pv 2) Y.cl M10.m G10 r4 M10.b .nil pass0 (pa_cons (pe_meth0 (pv 1) X.cl MR.m GR r2 MR.b .nil pass0) pa_nil)))) pss_nil)
      (pss_cons (ps_if (pt_cmpR op_eq (pv 0) (pe_ic T.m11) (nomark _)) (pss_one (ps_ret (pe_meth (pv 2) Y.cl M11.m G11 r4 M11.b .nil pass0 (pa_cons (pe_meth0 (pv 1) X.cl MR.m GR r2 MR.b .nil pass0) pa_nil)))) pss_nil)
      (pss_cons (ps_if (pt_cmpR op_eq (pv 0) (pe_ic T.m12) (nomark _)) (pss_one (ps_ret (pe_call GLA hr rfl DL.g DL.kp DL.b .nil pass0 (pa_cons (pv 1) (pa_cons (pv 2) pa_nil))))) pss_nil)
      (pss_one ps_dead)))))), ?_⟩
    refine pick (m := 7) N rfl (fun z H1 N1 => ?_) (fun z7 H1 N1 => ?_)
    · subst z
      exact br_get hL N1 hG0 rfl rfl hd hc K'
    refine pick (m := 8) N1 rfl (fun z H2 N2 => ?_) (fun z8 H2 N2 => ?_)
    · subst z
      exact ret_raw ⟨_, rfl, _, rfl, H0, g, p, a, k, k0, cl, l', r0, L, wl, wr, x, rfl, N2, hG0, hL, hN, hd, hc, K'⟩
    refine pick (m := 9) N2 rfl (fun z H3 N3 => ?_) (fun z9 H3 N3 => ?_)
    · subst z
      exact br_row (c := .find) (fun _ => rfl) (by decide +kernel) (by decide +kernel) hN hL N3 hG0 rfl rfl hd hc K'
    refine pick (m := 10) N3 rfl (fun z H4 N4 => ?_) (fun z10 H4 N4 => ?_)
    · subst z
      exact br_row (c := .begins) (fun _ => rfl) (by decide +kernel) (by decide +kernel) hN hL N4 hG0 rfl rfl hd hc K'
    refine pick (m := 11) N4 rfl (fun z H5 N5 => ?_) (fun z11 H5 N5 => ?_)
    · subst z
      exact br_row (c := .goes) (fun _ => rfl) (by decide +kernel) (by decide +kernel) hN hL N5 hG0 rfl rfl hd hc K'
    refine pick (m := 12) N5 rfl (fun z H6 N6 => ?_) (fun z12 H6 N6 => ?_)
    · subst z
      exact ret_raw ⟨_, rfl, _, rfl, H0, g, p, a, k, k0, cl, l', r0, L, wl, wr, x, rfl, N6, hG0, hL, hN, hd, hc, K'⟩
    exfalso
    unfold callN at hc
    dsimp only at hc
    rw [if_neg z1, if_neg z2, if_neg z3, if_neg z4, if_neg z5, if_neg z6, if_neg z7, if_neg z8, if_neg z9, if_neg z10, if_neg z11, if_neg z12] at hc
    cases hc
/-! answer_of -/
theorem scAnswerOf : FnScope ["given", "lexicon", "call"] ["given", "lexicon"] (defScope sAnswerOf) := ⟨rfl, rfl, rfl, by decide +kernel, rfl, by decide +kernel, by decide +kernel⟩
theorem ok_answerOf {f fn fr fw f1 f2 f3 f4 f5 f6 fA : Addr} {fd fdn fdr fdw fd1 fd2 fd3 fd4 fd5 fd6 fdA : FuncData} (D : Dn K mg "answer_of" sAnswerOf ["given", "lexicon"] f fd) (T : TxtA mg) (X : TxtG K mg CG) (Y : TxtX K mg CL)
    (MN : Mn K CG "take_number" "Given.take_number" sTakeN ["self"] fn fdn) (GN : FnOk P w K mg base CX0 1 fn fdn ["self"] (spTakeN K CG))
    (MR : Mn K CG "take_row" "Given.take_row" sTakeRow ["self"] fr fdr) (GR : FnOk P w K mg base CX0 2 fr fdr ["self"] (spTakeRow K CG))
    (DW : Dn K mg "take_word" sTakeWord ["given"] fw fdw) (GW : FnOk P w K mg base CX0 3 fw fdw ["given"] (spTakeWord K CW CG))
    (M1 : Mn K CL "begin" "Lexicon.begin" sBegin ["self"] f1 fd1) (G1 : FnOk P w K mg base CX0 2 f1 fd1 ["self"] (spBegin K CW CL))
    (M2 : Mn K CL "read" "Lexicon.read" sRead ["self", "data"] f2 fd2) (G2 : FnOk P w K mg base CX0 7 f2 fd2 ["self", "data"] (spRead K CW CL))
    (M3 : Mn K CL "write" "Lexicon.write" sWrite ["self"] f3 fd3) (G3 : FnOk P w K mg base CX0 5 f3 fd3 ["self"] (spWrite K CW CL))
    (M4 : Mn K CL "count" "Lexicon.count" sCount ["self"] f4 fd4) (G4 : FnOk P w K mg base CX0 1 f4 fd4 ["self"] (spCount K CW CL))
    (M5 : Mn K CL "put" "Lexicon.put" sPut ["self", "word"] f5 fd5) (G5 : FnOk P w K mg base CX0 6 f5 fd5 ["self", "word"] (spPut K CW CL))
    (M6 : Mn K CL "drop" "Lexicon.drop" sDrop ["self", "number"] f6 fd6) (G6 : FnOk P w K mg base CX0 2 f6 fd6 ["self", "number"] (spDrop K CW CL))
    (DA : Dn K mg "asked_answer" sAsked ["call", "given", "lexicon"] fA fdA) (GA : FnOk P w K mg base CX0 8 fA fdA ["call", "given", "lexicon"] (spAsked K CW CL CG tP)) :
    FnOk P w K mg base CX0 9 f fd ["given", "lexicon"] (spAnswerOf K CW CL CG tP) := by
  refine D.F.ok scAnswerOf (fun vs H Q E h => ?_) (fun cdv A outer s H vs Q E hr h => ?_)
  · obtain ⟨g, p, a, _, _, _, _, _, _, _, rfl, _⟩ := h
    rfl
  · obtain ⟨g, p, a, k, cl, l', L, wl, wr, x, rfl, hG, hS, hle, hX, hL, hT, hc, hby, K'⟩ := h
    have r1 : Room 1 _ := hr.mono (by decide)
    have r2 : Room 2 _ := hr.mono (by decide)
    have r3 : Room 3 _ := hr.mono (by decide)
    have r5 : Room 5 _ := hr.mono (by decide)
    have r6 : Room 6 _ := hr.mono (by decide)
    have r7 : Room 7 _ := hr.mono (by decide)
    refine ⟨_, pss_cons (ps_set (i := 2) scAnswerOf.nd rfl (Or.inl rfl) (pe_meth0 (pv 0) X.cl MN.m GN r1 MN.b .nil pass0))
      (pss_cons (ps_if (pt_cmpR op_eq (pv 2) (pe_ic T.n1) (nomark _)) (pss_one (ps_ret (pe_meth0 (pv 1) Y.cl M1.m G1 r2 M1.b .nil pass0))) pss_nil)
      (pss_cons (ps_if (pt_cmpR op_eq (pv 2) (pe_ic T.n2) (nomark _)) (pss_one (ps_ret (pe_meth (pv 1) Y.cl M2.m G2 r7 M2.b .nil pass0 (pa_cons (pe_meth0 (pv 0) X.cl MR.m GR r2 MR.b .nil pass0) pa_nil)))) pss_nil)
      (pss_cons (ps_if (pt_cmpR op_eq (pv 2) (pe_ic T.n3) (nomark _)) (pss_one (ps_ret (pe_meth0 (pv 1) Y.cl M3.m G3 r5 M3.b .nil pass0))) pss_nil)
      (pss_cons (ps_if (pt_cmpR op_eq (pv 2) (pe_ic T.n4) (nomark _)) (pss_one (ps_ret (pe_meth0 (pv 1) Y.cl M4.m G4 r1 M4.b .nil pass0))) pss_nil)
      (pss_cons (ps_if (pt_cmpR op_eq (pv 2) (pe_ic T.n5) (nomark _)) (pss_one (ps_ret (pe_meth (pv 1) Y.cl M5.m G5 r6 M5.b .nil pass0 (pa_cons (pe_call GW r3 rfl DW.g DW.kp DW.b .nil pass0 (pa_cons (pv 0) pa_nil)) pa_nil)))) pss_nil)
      (pss_cons (ps_if (pt_cmpR op_eq (pv 2) (pe_ic T.n6) (nomark _)) (pss_one (ps_ret (pe_meth (pv 1) Y.cl M6.m G6 r2 M6.b .nil pass0 (pa_cons (pe_meth0 (pv 0) X.cl MN.m GN r1 MN.b .nil pass0) pa_nil)))) pss_nil)
      (pss_one (ps_ret (pe_call GA hr rfl DA.g DA.kp DA.b .nil pass0 (pa_cons (pv 2) (pa_cons (pv 0) (pa_cons (pv 1) pa_nil)))))))))))), ?_⟩
    cases hd : cl.drop k with
    | nil =>
      rw [hd] at hc
      cases hc
    | cons n r0 =>
      rw [hd] at hc hby
      refine take_number (K := K) rfl hG hS hd fun H1 b1 hG1 hS1 d1 => ?_
      have N1 : Now K CW CL CG tP H g a p wl wr cl L (k + 1) H1 := ⟨b1, hG1, hS1, hG.lex b1 hX, let ⟨_, h⟩ := hG; tab_but b1 h hT⟩
      refine pick (m := 1) N1 rfl (fun z H2 N2 => ?_) (fun z1 H2 N2 => ?_)
      · subst z
        exact br_begin N2 hG rfl d1 hc K'
      refine pick (m := 2) N2 rfl (fun z H3 N3 => ?_) (fun z2 H3 N3 => ?_)
      · subst z
        exact br_read hle N3 hG rfl rfl d1 hby hc K'
      refine pick (m := 3) N3 rfl (fun z H4 N4 => ?_) (fun z3 H4 N4 => ?_)
      · subst z
        exact br_write hL N4 hG rfl d1 hc K'
      refine pick (m := 4) N4 rfl (fun z H5 N5 => ?_) (fun z4 H5 N5 => ?_)
      · subst z
        exact br_count N5 hG rfl d1 hc K'
      refine pick (m := 5) N5 rfl (fun z H6 N6 => ?_) (fun z5 H6 N6 => ?_)
      · subst z
        exact br_put hle hL N6 hG rfl rfl d1 hc K'
      refine pick (m := 6) N6 rfl (fun z H7 N7 => ?_) (fun z6 H7 N7 => ?_)
      · subst z
        exact br_drop hL N7 hG rfl rfl d1 hc K'
      exact ret_raw ⟨_, rfl, _, rfl, _, rfl, H, g, p, a, n, k + 1, k, cl, l', r0, L, wl, wr, x, rfl, N7, hG, hL, hle, d1, ⟨z1, z2, z3, z4, z5, z6⟩, hc, K'⟩
end
end So
/-! the end of a Spec row whose program makes a lambda: the maker's table is tracked from the start -/
namespace So
open PySem PySem.Spec PyProof.Rows L2 Evl
open PySem.W (WData Codec OpenSpec WellAll ReadsW CodeHd)
open LamX (TabB)
section
variable {P : Program} {w : World} {K : PySem.W.Frag} {mg mb : Str → Option Value} {CX : CXT} {k : Nat} {fa cP tP : Addr} {fd : FuncData} {ps : List Str} {sp : Sp}
/-- the call, told of the heap behind it -/
theorem call_tab {s1 : Shared} {vals : List Value} {ds : List WData} {R : PySem.W.WRecords} {cl : Str → Option Addr} {d0 : WData} (KX : K.In s1.heap) (nsg : s1.heap.Ns mainGlobals mg) (nsb : s1.heap.Ns builtinsNs mb) (hbb : ∀ x : Str, x ≠ "__name__" → mb x = bootBuiltins x) (hlim : s1.heap.NoLimit) (hgen : s1.gens = #[])
    (hC : CodeHd s1.heap cP tP) (hP : s1.heap.get? tP = some { cls := .none, data := .fields #[] }) (kP : K.lookup tP = none)
    (hbm : ∃ (bm : Addr) (ob : Obj), mg "__builtins__" = some (.ref bm) ∧ bm ≠ builtinsNs ∧ s1.heap.get? bm = some ob ∧ ob.cls = .type "module" ∧ ob.dict = some builtinsNs ∧ ob.data = .plain)
    (hwell : WellAll w.params s1.heap vals ds) (hpl : plWs ds = true) (hwt : ∀ d ∈ ds, d.weight ≤ 1048576) (hr : Room k callerA)
    (F : ∀ base : Heap, K.In base → base.Ns mainGlobals mg → TabB base mg cP tP → FnOk P w K mg base CX k fa fd ps sp) (hbind : ∀ (s : Shared) (us : List Value), us.length = ps.length → BindsTo s fd ⟨us, []⟩ (ps.zip us)) (hlen : ds.length = ps.length)
    (hsp : ∀ (H0 H : Hp) (xs : List V), DwAll K H0 xs ds → Ex H0 H → H tP = some (.tbl #[]) → sp xs H (fun v H' => Dw K H' v d0) fun _ _ _ => False) (hCX : ∀ H e s', CX [] H s1 (fun _ _ _ => False) e s' → False) :
    codeAny (model P w) callerA (.call (.ref fa) ⟨vals, []⟩) (fun r s2 => ∃ u as, r = .ok (.ret u) ∧ ReadsW R cl s2.heap u d0 as ∧ OldK s1.heap s2.heap ∧ s2.os = s1.os ∧ AllBare s2.gens) s1 := by
  obtain ⟨A, hu, ar⟩ := area_all ds vals hwell hpl hwt
  have frz0 := argH_only (K := K) ar
  have ok0 : HOk P w (argH K s1.heap A) s1.heap := argH_ok ar
  have data0 := dw_all KX ar ds vals hwell hpl hu
  have isSeq : ∀ {b : Addr} {u : HO}, argH K s1.heap A b = some u → K.lookup b = none ∧ ∃ (o : Obj) (vs : Array Value) (n : Nat), s1.heap.get? b = some o ∧ o.data = .seq vs n := fun {b u} q => by
    obtain ⟨q1, vs, _, _, ⟨e, _⟩ | ⟨e, _⟩⟩ := argH_is ar q
    · exact ⟨q1, _, vs.toArray, _, e, rfl⟩
    · exact ⟨q1, _, vs.toArray, _, e, rfl⟩
  generalize argH K s1.heap A = H0 at *
  have none0 : H0 tP = none := by
    cases q : H0 tP with
    | none => rfl
    | some u =>
      obtain ⟨_, o, vs, n, e, hd⟩ := isSeq q
      rw [hP] at e
      cases e
      cases hd
  have ext : Ex H0 (upd H0 tP (.tbl #[])) := Ex.new none0
  have atP : upd H0 tP (.tbl #[]) tP = some (.tbl #[]) := upd_same
  have okH : HOk P w (upd H0 tP (.tbl #[])) s1.heap := fun b u e => by
    by_cases hb : b = tP
    · subst hb
      rw [upd_same] at e
      cases e
      exact hP
    · rw [upd_ne hb] at e
      exact (ok0 b u e).stay (fun _ _ _ q => q) (fun c q => ext _ _ q) fun c xs q => ext _ _ q
  have only : ∀ b, b ≠ tP → upd H0 tP (.tbl #[]) b = none ∨ ∃ o u, upd H0 tP (.tbl #[]) b = some (.frz o u) := fun b hb => by
    rw [upd_ne hb]
    exact frz0 b
  -- what is no list, no tuple and not the table is not tracked
  have free : ∀ {b : Addr} {o : Obj}, s1.heap.get? b = some o → (∀ vs n, o.data ≠ .seq vs n) → o.data ≠ .fields #[] → upd H0 tP (.tbl #[]) b = none := fun {b o} e h1 h2 => by
    have hb : b ≠ tP := fun z => by
      subst z
      rw [hP] at e
      cases e
      exact h2 rfl
    rw [upd_ne hb]
    cases q : H0 b with
    | none => rfl
    | some u =>
      obtain ⟨_, o2, vs, n, e2, hd⟩ := isSeq q
      rw [e] at e2
      cases e2
      exact absurd hd (h1 vs n)
  have freeK : ∀ b o, K.lookup b = some o → upd H0 tP (.tbl #[]) b = none := fun b o e => by
    have hb : b ≠ tP := fun z => by
      subst z
      rw [kP] at e
      cases e
    rw [upd_ne hb]
    cases q : H0 b with
    | none => rfl
    | some u =>
      rw [(isSeq q).1] at e
      cases e
  generalize upd H0 tP (.tbl #[]) = H at *
  have nsH : ∀ {b : Addr} {m : Str → Option Value}, s1.heap.Ns b m → (hidT s1.heap H).Ns b m := fun {b m} ⟨o, es, ep, e, hd, r⟩ => ⟨o, es, ep, hidT_get e (free e (fun vs n z => by rw [hd] at z; cases z) fun z => by rw [hd] at z; cases z), hd, r⟩
  have KB : K.In (hidT s1.heap H) := fun b o e => hidT_get (KX b o e) (freeK b o e)
  have MB : Mod K mg (hidT s1.heap H) := by
    obtain ⟨mc, m1, m2⟩ := hlim
    exact ⟨KB, nsH nsg, ⟨mb, nsH nsb, hbb⟩, mc, nsH m1, m2⟩
  have TB : TabB (hidT s1.heap H) mg cP tP := by
    refine ⟨?_, ?_, fun z => ?_⟩
    · obtain ⟨o, us, file, tf, fl, tg, inF, tx, tt, c1, c2, c3, c4, c5, c6, c7, c8, c9, c10⟩ := hC
      exact ⟨o, us, file, tf, fl, tg, inF, tx, tt, hidT_get c1 (free c1 (fun vs n z => by rw [c3] at z; cases z) fun z => by rw [c3] at z; cases z; simp at c4), c2, c3, c4, c5, c6, c7, c8, c9, c10⟩
    · obtain ⟨bm, ob, b1, b2, b3, b4, b5, b6⟩ := hbm
      refine ⟨bm, ob, b1, b2, fun z => ?_, fun z => ?_, hidT_get b3 (free b3 (fun vs n z => by rw [b6] at z; cases z) fun z => by rw [b6] at z; cases z), b4, b5, b6⟩
      · obtain ⟨o, es, ep, e, hd, _⟩ := nsg
        rw [z, e] at b3
        cases b3
        rw [hd] at b6
        cases b6
      · rw [z, hP] at b3
        cases b3
        cases b6
    · obtain ⟨o, es, ep, e, hd, _⟩ := nsg
      rw [z, hP] at e
      cases e
      cases hd
  have env : Env0 P w K mg (hidT s1.heap H) callerA [] s1 H := ⟨rfl, MB, fun b o e => of_hidT e, Nat.le_of_eq (hidT_size _ _), trivial, fun b hb => (by cases hb), okH, .of_eq hgen⟩
  have hl : vals.length = ps.length := (wellAll_len hwell).trans hlen
  refine codeAny_mono ((F _ KB (nsH nsg) TB).run callerA [] s1 H ⟨vals, []⟩ vals (vals.map toV) _ _ hr env (hbind s1 vals hl) (vals_toV hu) (hsp H0 H _ data0 ext atP)) fun r s2 x => ?_
  cases r with
  | error e => exact (hCX H e s2 x).elim
  | ok fl =>
    cases fl with
    | next => exact False.elim x
    | brk => exact False.elim x
    | cont => exact False.elim x
    | ret u =>
      obtain ⟨v, H2, os, bare, un, ok2, rv, hv⟩ := x
      have stays : ∀ b o, b ≠ tP → s1.heap.get? b = some o → s2.heap.get? b = some o := fun b o hb e => by
        rcases only b hb with z | ⟨ob, u3, z⟩
        · exact un.keep b o e z (by intro y; exact absurd (show b ∈ ([] : List Addr) from y) (by simp)) (by simp)
        · obtain ⟨e1, _⟩ := okH b _ z
          obtain ⟨e2, _⟩ := ok2 b _ (un.frzs b ob _ z)
          rw [e] at e1
          cases e1
          exact e2
      obtain ⟨more, grown⟩ := un.tbls tP #[] atP
      have atP2 : s2.heap.get? tP = some { cls := .none, data := .fields (#[] ++ more) } := ok2 tP _ grown
      have K2 : K.In s2.heap := fun b o e => stays b o (fun z => by
        subst z
        rw [kP] at e
        cases e) (KX b o e)
      obtain ⟨as, hrd⟩ := Dw.reads (R := R) (cl := cl) ok2 K2 d0 v u hv rv
      refine ⟨u, as, rfl, hrd, ⟨fun b o e => ?_, fun b o e => ?_⟩, os, bare⟩
      · by_cases hb : b = tP
        · subst hb
          rw [hP] at e
          cases e
          exact .inr (.inl ⟨(hC.tab hP).isCodeTable, rfl, #[], more, rfl, atP2⟩)
        · exact .inl (stays b o hb e)
      · by_cases hb : b = tP
        · subst hb
          exact ⟨_, atP2⟩
        · exact ⟨o, stays b o hb e⟩
end
/-- the goal that the head leaves -/
theorem walk_tab {r : OpenSpec} {k : Nat} {q : Program} {loose : List Str} {XP : (Str → Option Value) → Heap → Prop} {YP : World → Heap → Prop} {d : DefRec} {K : Params → PySem.W.Frag} {ps : List Str} {sp : PySem.W.Frag → Addr → Sp} {maker : Str}
    (hwell : r.wellSaid = true) (hdf : d.params.defaults = []) (hlen : r.args.length = ps.length) (hr : Room k callerA) (hY : ∀ (w : World) (h : Heap), YP w h → (K w.params).In h) (hm : ((recsOf q).find? fun e => e.name == maker).isSome = true)
    (F : ∀ (w : World) (mg : Str → Option Value) (fa : Addr) (h : Heap), YP w h → (K w.params).In h → h.Ns mainGlobals mg → mg d.name = some (.ref fa) →
      ∃ (fd : FuncData) (cP tP : Addr), PySem.W.tabIn (K w.params) maker = some (cP, tP) ∧ (K w.params).lookup tP = none ∧ (∀ (s : Shared) (us : List Value), us.length = ps.length → BindsTo s fd ⟨us, []⟩ (ps.zip us)) ∧
        (∀ base : Heap, (K w.params).In base → base.Ns mainGlobals mg → TabB base mg cP tP → FnOk r.prog w (K w.params) mg base CX0 k fa fd ps (sp (K w.params) tP)))
    (hsp : ∀ (K : PySem.W.Frag) (H0 H : Hp) (xs : List V) (tP : Addr) (a : Codec.denoteAll r.args), Codec.withinAll r.args a = true → Codec.app r.args r.asked a = true → DwAll K H0 xs (Codec.encAll r.args a) → Ex H0 H → H tP = some (.tbl #[]) →
      sp K tP xs H (fun v H' => Dw K H' v (r.ret.enc (Codec.app r.args r.f a))) fun _ _ _ => False) :
    PySem.W.WalkOS q loose XP YP r d [] (fun f vs => PySem.call f vs) := by
  intro w s0 s1 mg mb G Y fa o pm cd doc dV kV ho hd hcd hD hmg hg args vals as hpre hlay hrd hwl hlo
  obtain ⟨a, e1, e2⟩ := PySem.W.os_pre_some hpre
  obtain ⟨rfl, hwi⟩ := Codec.encAll_of_decAll r.args args a e1
  have KX := hY w _ Y
  obtain ⟨fd, cP, tP, ht, kP, hb, hF⟩ := F w mg fa _ Y KX G.T.g hmg
  obtain ⟨dm, hdm⟩ := Option.isSome_iff_exists.mp hm
  obtain ⟨hC, hP⟩ := PySem.W.tab_of G.T KX hdm ht
  refine PySem.W.enter_call (codeAny_mono (call_tab (R := []) (cl := classAt s0.heap) (d0 := r.ret.enc (Codec.app r.args r.f a)) KX G.T.g G.T.b G.T.builtins G.T.nolimit hg hC hP kP G.T.bmain hwl (pl_encAll _ _) (layable_weight hlay) hr hF hb ((encAll_len _ _).trans hlen)
    (fun H0 H xs hx e hT => hsp _ H0 H xs tP a hwi e2 hx e hT) fun _ _ _ z => z) fun r2 s2 hq => ?_)
  obtain ⟨u, as2, rfl, h1, h2, h3, h4⟩ := hq
  exact ⟨.inl ⟨u, _, as2, rfl, fun _ => rfl, h1, (OpenSpec.post_iff hwell hwi _ _).mpr rfl, fun z => Bool.noConfusion (show false = true from z)⟩, h2, h3, h4⟩
theorem tab_in {K : PySem.W.Frag} {x : Str} {f c tP : Addr} {oc q1 : Value} {od q2 : Option Addr} {sl q4 : Array (Option Value)} {fd : FuncData} {vs : Array Value} (h1 : PySem.W.nsIn K mainGlobals x = some (some (.ref f))) (h2 : K.lookup f = some ⟨oc, od, .func fd, sl⟩) (h4 : K.lookup c = some ⟨q1, q2, .fields vs, q4⟩) (h5 : vs[11]? = some (.ref tP)) (h3 : fd.code = .ref c := by rfl) :
    PySem.W.tabIn K x = some (c, tP) := by
  unfold PySem.W.tabIn
  rw [h1]
  dsimp only
  rw [h2]
  dsimp only
  rw [h3]
  dsimp only
  rw [h4]
  dsimp only
  rw [h5]
end So
/-! the end -/
namespace So
open PySem PySem.Spec PyProof.Rows L2 Evl
theorem all_mk {P : Program} {w : World} {K : PySem.W.Frag} {h : Heap} {mg : Str → Option Value} {fa CW CL CG tA cP tP : Addr} {qc : Value} {qd : Option Addr} {qv : Array Value} {qs : Array (Option Value)} {f0 f1 f2 f3 f4 f5 f6 f7 f8 f9 f10 f11 f12 f13 f14 f15 f16 f17 f18 f19 f20 f21 f22 f23 f24 f25 f26 f27 f28 f29 f30 f31 f32 f33 f34 f35 f36 f37 f38 f39 f40 f41 f42 f43 f44 f45 f46 f47 f48 f49 f50 f51 f52 f53 f54 : Addr} (X : K.In h) (G : h.Ns mainGlobals mg) (hfa : mg "answers" = some (.ref fa))
    {od0 an0 od1 an1 od2 an2 od3 an3 od4 an4 od5 an5 od6 an6 od7 an7 od8 an8 od9 an9 od10 an10 od11 an11 od12 an12 od13 an13 od14 an14 od15 an15 od16 an16 od17 an17 od18 an18 od19 an19 od20 an20 od21 an21 od22 an22 od23 an23 od24 an24 od25 an25 od26 an26 od27 an27 od28 an28 od29 an29 od30 an30 od31 an31 od32 an32 od33 an33 od34 an34 od35 an35 od36 an36 od37 an37 od38 an38 od39 an39 od40 an40 od41 an41 od42 an42 od43 an43 od44 an44 od45 an45 od46 an46 od47 an47 od48 an48 od49 an49 od50 an50 od51 an51 od52 an52 od53 an53 od54 an54 dA : Option Addr} {sl0 sl1 sl2 sl3 sl4 sl5 sl6 sl7 sl8 sl9 sl10 sl11 sl12 sl13 sl14 sl15 sl16 sl17 sl18 sl19 sl20 sl21 sl22 sl23 sl24 sl25 sl26 sl27 sl28 sl29 sl30 sl31 sl32 sl33 sl34 sl35 sl36 sl37 sl38 sl39 sl40 sl41 sl42 sl43 sl44 sl45 sl46 sl47 sl48 sl49 sl50 sl51 sl52 sl53 sl54 sA : Array (Option Value)} {iA : Array Value} {nA : Nat}
    {oc0 kV0 dc0 pm0 cd0 ct0 oc1 kV1 dc1 pm1 cd1 ct1 oc2 kV2 dc2 pm2 cd2 ct2 oc3 kV3 dc3 pm3 cd3 ct3 oc4 kV4 dc4 pm4 cd4 ct4 oc5 kV5 dc5 pm5 cd5 ct5 oc6 kV6 dc6 pm6 cd6 ct6 oc7 kV7 dc7 pm7 cd7 ct7 oc8 kV8 dc8 pm8 cd8 ct8 oc9 kV9 dc9 pm9 cd9 ct9 oc10 kV10 dc10 pm10 cd10 ct10 oc11 kV11 dc11 pm11 cd11 ct11 oc12 kV12 dc12 pm12 cd12 ct12 oc13 kV13 dc13 pm13 cd13 ct13 oc14 kV14 dc14 pm14 cd14 ct14 oc15 kV15 dc15 pm15 cd15 ct15 oc16 kV16 dc16 pm16 cd16 ct16 oc17 kV17 dc17 pm17 cd17 ct17 oc18 kV18 dc18 pm18 cd18 ct18 oc19 kV19 dc19 pm19 cd19 ct19 oc20 kV20 dc20 pm20 cd20 ct20 oc21 kV21 dc21 pm21 cd21 ct21 oc22 kV22 dc22 pm22 cd22 ct22 oc23 kV23 dc23 pm23 cd23 ct23 oc24 kV24 dc24 pm24 cd24 ct24 oc25 kV25 dc25 pm25 cd25 ct25 oc26 kV26 dc26 pm26 cd26 ct26 oc27 kV27 dc27 pm27 cd27 ct27 oc28 kV28 dc28 pm28 cd28 ct28 oc29 kV29 dc29 pm29 cd29 ct29 oc30 kV30 dc30 pm30 ct30 oc31 kV31 dc31 pm31 cd31 ct31 oc32 kV32 dc32 pm32 cd32 ct32 oc33 kV33 dc33 pm33 cd33 ct33 oc34 kV34 dc34 pm34 cd34 ct34 oc35 kV35 dc35 pm35 cd35 ct35 oc36 kV36 dc36 pm36 cd36 ct36 oc37 kV37 dc37 pm37 cd37 ct37 oc38 kV38 dc38 pm38 cd38 ct38 oc39 kV39 dc39 pm39 cd39 ct39 oc40 kV40 dc40 pm40 cd40 ct40 oc41 kV41 dc41 pm41 cd41 ct41 oc42 kV42 dc42 pm42 cd42 ct42 oc43 kV43 dc43 pm43 cd43 ct43 oc44 kV44 dc44 pm44 cd44 ct44 oc45 kV45 dc45 pm45 cd45 ct45 oc46 kV46 dc46 pm46 cd46 ct46 oc47 kV47 dc47 pm47 cd47 ct47 oc48 kV48 dc48 pm48 cd48 ct48 oc49 kV49 dc49 pm49 cd49 ct49 oc50 kV50 dc50 pm50 cd50 ct50 oc51 kV51 dc51 pm51 cd51 ct51 oc52 kV52 dc52 pm52 cd52 ct52 oc53 kV53 dc53 pm53 cd53 ct53 oc54 kV54 dc54 pm54 cd54 ct54 : Value} {t_FIRST_SURROGATE t_LAST_SURROGATE t_CHARACTERS_END t_BLANK t_DELETE t_MOST_CHARACTERS t_MOST_SORT t_MOST_COST t_MOST_WORDS t_LINE_END t_DIGIT_0 t_DIGIT_9 t_PARTS t_TOO_LARGE t_NO_FAULT t_NO_LINE t_BEYOND_LIMITS t_SAME_AS_BEFORE t_TOO_MANY t_MOST_BYTES t_TOO_LONG t_FAULTY t_NO_WORD t_NO_SUCH_NUMBER t_FULL t_BEGIN t_READ t_WRITE t_COUNT t_PUT t_DROP t_MOST_ASKED t_NO_REFUSAL t_NO_CHARACTER t_NONE_FOUND t_GET t_NUMBER t_FIND t_BEGINS t_GOES t_LIKELY : Tok}
    (a0 : PySem.W.nsIn K mainGlobals "is_character" = some (some (.ref f0)))
    (l0 : K.lookup f0 = some ⟨oc0, od0, .func (PySem.W.fnOf "is_character" "is_character" (defArgs sIsChar) (defBody sIsChar) (defScope sIsChar) .none kV0 dc0 pm0 an0 cd0 ct0), sl0⟩)
    (c0 : PySem.W.codeIn K cd0 "is_character" = true)
    (k0 : PySem.W.keepIn K (.ref f0) = true)
    (a1 : PySem.W.nsIn K mainGlobals "may_stand" = some (some (.ref f1)))
    (l1 : K.lookup f1 = some ⟨oc1, od1, .func (PySem.W.fnOf "may_stand" "may_stand" (defArgs sMayStand) (defBody sMayStand) (defScope sMayStand) .none kV1 dc1 pm1 an1 cd1 ct1), sl1⟩)
    (c1 : PySem.W.codeIn K cd1 "may_stand" = true)
    (k1 : PySem.W.keepIn K (.ref f1) = true)
    (a2 : PySem.W.nsIn K mainGlobals "all_may_stand" = some (some (.ref f2)))
    (l2 : K.lookup f2 = some ⟨oc2, od2, .func (PySem.W.fnOf "all_may_stand" "all_may_stand" (defArgs sAllMay) (defBody sAllMay) (defScope sAllMay) .none kV2 dc2 pm2 an2 cd2 ct2), sl2⟩)
    (c2 : PySem.W.codeIn K cd2 "all_may_stand" = true)
    (k2 : PySem.W.keepIn K (.ref f2) = true)
    (a3 : PySem.W.nsIn K mainGlobals "is_row" = some (some (.ref f3)))
    (l3 : K.lookup f3 = some ⟨oc3, od3, .func (PySem.W.fnOf "is_row" "is_row" (defArgs sIsRow) (defBody sIsRow) (defScope sIsRow) .none kV3 dc3 pm3 an3 cd3 ct3), sl3⟩)
    (c3 : PySem.W.codeIn K cd3 "is_row" = true)
    (k3 : PySem.W.keepIn K (.ref f3) = true)
    (a4 : PySem.W.nsIn K mainGlobals "is_word" = some (some (.ref f4)))
    (l4 : K.lookup f4 = some ⟨oc4, od4, .func (PySem.W.fnOf "is_word" "is_word" (defArgs sIsWord) (defBody sIsWord) (defScope sIsWord) .none kV4 dc4 pm4 an4 cd4 ct4), sl4⟩)
    (c4 : PySem.W.codeIn K cd4 "is_word" = true)
    (k4 : PySem.W.keepIn K (.ref f4) = true)
    (a5 : PySem.W.nsIn K mainGlobals "is_same" = some (some (.ref f5)))
    (l5 : K.lookup f5 = some ⟨oc5, od5, .func (PySem.W.fnOf "is_same" "is_same" (defArgs sIsSame) (defBody sIsSame) (defScope sIsSame) .none kV5 dc5 pm5 an5 cd5 ct5), sl5⟩)
    (c5 : PySem.W.codeIn K cd5 "is_same" = true)
    (k5 : PySem.W.keepIn K (.ref f5) = true)
    (a6 : PySem.W.nsIn K mainGlobals "order_of" = some (some (.ref f6)))
    (l6 : K.lookup f6 = some ⟨oc6, od6, .func (PySem.W.fnOf "order_of" "order_of" (defArgs sOrderOf) (defBody sOrderOf) (defScope sOrderOf) .none kV6 dc6 pm6 an6 cd6 ct6), sl6⟩)
    (c6 : PySem.W.codeIn K cd6 "order_of" = true)
    (k6 : PySem.W.keepIn K (.ref f6) = true)
    (a7 : PySem.W.nsIn K mainGlobals "length_told" = some (some (.ref f7)))
    (l7 : K.lookup f7 = some ⟨oc7, od7, .func (PySem.W.fnOf "length_told" "length_told" (defArgs sLenTold) (defBody sLenTold) (defScope sLenTold) .none kV7 dc7 pm7 an7 cd7 ct7), sl7⟩)
    (c7 : PySem.W.codeIn K cd7 "length_told" = true)
    (k7 : PySem.W.keepIn K (.ref f7) = true)
    (a8 : PySem.W.nsIn K mainGlobals "character_at" = some (some (.ref f8)))
    (l8 : K.lookup f8 = some ⟨oc8, od8, .func (PySem.W.fnOf "character_at" "character_at" (defArgs sCharAt) (defBody sCharAt) (defScope sCharAt) .none kV8 dc8 pm8 an8 cd8 ct8), sl8⟩)
    (c8 : PySem.W.codeIn K cd8 "character_at" = true)
    (k8 : PySem.W.keepIn K (.ref f8) = true)
    (a9 : PySem.W.nsIn K mainGlobals "decoded" = some (some (.ref f9)))
    (l9 : K.lookup f9 = some ⟨oc9, od9, .func (PySem.W.fnOf "decoded" "decoded" (defArgs sDecoded) (defBody sDecoded) (defScope sDecoded) .none kV9 dc9 pm9 an9 cd9 ct9), sl9⟩)
    (c9 : PySem.W.codeIn K cd9 "decoded" = true)
    (k9 : PySem.W.keepIn K (.ref f9) = true)
    (a10 : PySem.W.nsIn K mainGlobals "bytes_of" = some (some (.ref f10)))
    (l10 : K.lookup f10 = some ⟨oc10, od10, .func (PySem.W.fnOf "bytes_of" "bytes_of" (defArgs sBytesOf) (defBody sBytesOf) (defScope sBytesOf) .none kV10 dc10 pm10 an10 cd10 ct10), sl10⟩)
    (c10 : PySem.W.codeIn K cd10 "bytes_of" = true)
    (k10 : PySem.W.keepIn K (.ref f10) = true)
    (a11 : PySem.W.nsIn K mainGlobals "encoded" = some (some (.ref f11)))
    (l11 : K.lookup f11 = some ⟨oc11, od11, .func (PySem.W.fnOf "encoded" "encoded" (defArgs sEncoded) (defBody sEncoded) (defScope sEncoded) .none kV11 dc11 pm11 an11 cd11 ct11), sl11⟩)
    (c11 : PySem.W.codeIn K cd11 "encoded" = true)
    (k11 : PySem.W.keepIn K (.ref f11) = true)
    (a12 : PySem.W.nsIn K mainGlobals "lines_of" = some (some (.ref f12)))
    (l12 : K.lookup f12 = some ⟨oc12, od12, .func (PySem.W.fnOf "lines_of" "lines_of" (defArgs sLinesOf) (defBody sLinesOf) (defScope sLinesOf) .none kV12 dc12 pm12 an12 cd12 ct12), sl12⟩)
    (c12 : PySem.W.codeIn K cd12 "lines_of" = true)
    (k12 : PySem.W.keepIn K (.ref f12) = true)
    (a13 : PySem.W.nsIn K mainGlobals "parts_of" = some (some (.ref f13)))
    (l13 : K.lookup f13 = some ⟨oc13, od13, .func (PySem.W.fnOf "parts_of" "parts_of" (defArgs sPartsOf) (defBody sPartsOf) (defScope sPartsOf) .none kV13 dc13 pm13 an13 cd13 ct13), sl13⟩)
    (c13 : PySem.W.codeIn K cd13 "parts_of" = true)
    (k13 : PySem.W.keepIn K (.ref f13) = true)
    (a14 : PySem.W.nsIn K mainGlobals "number_in" = some (some (.ref f14)))
    (l14 : K.lookup f14 = some ⟨oc14, od14, .func (PySem.W.fnOf "number_in" "number_in" (defArgs sNumberIn) (defBody sNumberIn) (defScope sNumberIn) .none kV14 dc14 pm14 an14 cd14 ct14), sl14⟩)
    (c14 : PySem.W.codeIn K cd14 "number_in" = true)
    (k14 : PySem.W.keepIn K (.ref f14) = true)
    (a15 : PySem.W.nsIn K mainGlobals "is_filled" = some (some (.ref f15)))
    (l15 : K.lookup f15 = some ⟨oc15, od15, .func (PySem.W.fnOf "is_filled" "is_filled" (defArgs sIsFilled) (defBody sIsFilled) (defScope sIsFilled) .none kV15 dc15 pm15 an15 cd15 ct15), sl15⟩)
    (c15 : PySem.W.codeIn K cd15 "is_filled" = true)
    (k15 : PySem.W.keepIn K (.ref f15) = true)
    (a16 : PySem.W.nsIn K mainGlobals "word_in" = some (some (.ref f16)))
    (l16 : K.lookup f16 = some ⟨oc16, od16, .func (PySem.W.fnOf "word_in" "word_in" (defArgs sWordIn) (defBody sWordIn) (defScope sWordIn) .none kV16 dc16 pm16 an16 cd16 ct16), sl16⟩)
    (c16 : PySem.W.codeIn K cd16 "word_in" = true)
    (k16 : PySem.W.keepIn K (.ref f16) = true)
    (a17 : PySem.W.nsIn K mainGlobals "fault_kind" = some (some (.ref f17)))
    (l17 : K.lookup f17 = some ⟨oc17, od17, .func (PySem.W.fnOf "fault_kind" "fault_kind" (defArgs sFaultKind) (defBody sFaultKind) (defScope sFaultKind) .none kV17 dc17 pm17 an17 cd17 ct17), sl17⟩)
    (c17 : PySem.W.codeIn K cd17 "fault_kind" = true)
    (k17 : PySem.W.keepIn K (.ref f17) = true)
    (a18 : PySem.W.nsIn K mainGlobals "digits_of" = some (some (.ref f18)))
    (l18 : K.lookup f18 = some ⟨oc18, od18, .func (PySem.W.fnOf "digits_of" "digits_of" (defArgs sDigitsOf) (defBody sDigitsOf) (defScope sDigitsOf) .none kV18 dc18 pm18 an18 cd18 ct18), sl18⟩)
    (c18 : PySem.W.codeIn K cd18 "digits_of" = true)
    (k18 : PySem.W.keepIn K (.ref f18) = true)
    (a19 : PySem.W.nsIn K mainGlobals "line_of" = some (some (.ref f19)))
    (l19 : K.lookup f19 = some ⟨oc19, od19, .func (PySem.W.fnOf "line_of" "line_of" (defArgs sLineOf) (defBody sLineOf) (defScope sLineOf) .none kV19 dc19 pm19 an19 cd19 ct19), sl19⟩)
    (c19 : PySem.W.codeIn K cd19 "line_of" = true)
    (k19 : PySem.W.keepIn K (.ref f19) = true)
    (a20 : PySem.W.nsIn K mainGlobals "text_of" = some (some (.ref f20)))
    (l20 : K.lookup f20 = some ⟨oc20, od20, .func (PySem.W.fnOf "text_of" "text_of" (defArgs sTextOf) (defBody sTextOf) (defScope sTextOf) .none kV20 dc20 pm20 an20 cd20 ct20), sl20⟩)
    (c20 : PySem.W.codeIn K cd20 "text_of" = true)
    (k20 : PySem.W.keepIn K (.ref f20) = true)
    (a21 : PySem.W.nsIn K mainGlobals "take_word" = some (some (.ref f21)))
    (l21 : K.lookup f21 = some ⟨oc21, od21, .func (PySem.W.fnOf "take_word" "take_word" (defArgs sTakeWord) (defBody sTakeWord) (defScope sTakeWord) .none kV21 dc21 pm21 an21 cd21 ct21), sl21⟩)
    (c21 : PySem.W.codeIn K cd21 "take_word" = true)
    (k21 : PySem.W.keepIn K (.ref f21) = true)
    (a22 : PySem.W.nsIn K mainGlobals "answer_of" = some (some (.ref f22)))
    (l22 : K.lookup f22 = some ⟨oc22, od22, .func (PySem.W.fnOf "answer_of" "answer_of" (defArgs sAnswerOf) (defBody sAnswerOf) (defScope sAnswerOf) .none kV22 dc22 pm22 an22 cd22 ct22), sl22⟩)
    (c22 : PySem.W.codeIn K cd22 "answer_of" = true)
    (k22 : PySem.W.keepIn K (.ref f22) = true)
    (a23 : PySem.W.nsIn K mainGlobals "answers" = some (some (.ref f23)))
    (l23 : K.lookup f23 = some ⟨oc23, od23, .func (PySem.W.fnOf "answers" "answers" (defArgs sAnswers) (defBody sAnswers) (defScope sAnswers) .none kV23 dc23 pm23 an23 cd23 ct23), sl23⟩)
    (c23 : PySem.W.codeIn K cd23 "answers" = true)
    (k23 : PySem.W.keepIn K (.ref f23) = true)
    (a24 : PySem.W.nsIn K mainGlobals "all_characters" = some (some (.ref f24)))
    (l24 : K.lookup f24 = some ⟨oc24, od24, .func (PySem.W.fnOf "all_characters" "all_characters" (defArgs sAllChar) (defBody sAllChar) (defScope sAllChar) .none kV24 dc24 pm24 an24 cd24 ct24), sl24⟩)
    (c24 : PySem.W.codeIn K cd24 "all_characters" = true)
    (k24 : PySem.W.keepIn K (.ref f24) = true)
    (a25 : PySem.W.nsIn K mainGlobals "likely_order_of" = some (some (.ref f25)))
    (l25 : K.lookup f25 = some ⟨oc25, od25, .func (PySem.W.fnOf "likely_order_of" "likely_order_of" (defArgs sLikeOrder) (defBody sLikeOrder) (defScope sLikeOrder) .none kV25 dc25 pm25 an25 cd25 ct25), sl25⟩)
    (c25 : PySem.W.codeIn K cd25 "likely_order_of" = true)
    (k25 : PySem.W.keepIn K (.ref f25) = true)
    (a26 : PySem.W.nsIn K mainGlobals "has_beginning" = some (some (.ref f26)))
    (l26 : K.lookup f26 = some ⟨oc26, od26, .func (PySem.W.fnOf "has_beginning" "has_beginning" (defArgs sHasBeg) (defBody sHasBeg) (defScope sHasBeg) .none kV26 dc26 pm26 an26 cd26 ct26), sl26⟩)
    (c26 : PySem.W.codeIn K cd26 "has_beginning" = true)
    (k26 : PySem.W.keepIn K (.ref f26) = true)
    (a27 : PySem.W.nsIn K mainGlobals "count_before" = some (some (.ref f27)))
    (l27 : K.lookup f27 = some ⟨oc27, od27, .func (PySem.W.fnOf "count_before" "count_before" (defArgs sCountBefore) (defBody sCountBefore) (defScope sCountBefore) .none kV27 dc27 pm27 an27 cd27 ct27), sl27⟩)
    (c27 : PySem.W.codeIn K cd27 "count_before" = true)
    (k27 : PySem.W.keepIn K (.ref f27) = true)
    (a28 : PySem.W.nsIn K mainGlobals "count_of_reading" = some (some (.ref f28)))
    (l28 : K.lookup f28 = some ⟨oc28, od28, .func (PySem.W.fnOf "count_of_reading" "count_of_reading" (defArgs sCountReading) (defBody sCountReading) (defScope sCountReading) .none kV28 dc28 pm28 an28 cd28 ct28), sl28⟩)
    (c28 : PySem.W.codeIn K cd28 "count_of_reading" = true)
    (k28 : PySem.W.keepIn K (.ref f28) = true)
    (a29 : PySem.W.nsIn K mainGlobals "numbers_going_on" = some (some (.ref f29)))
    (l29 : K.lookup f29 = some ⟨oc29, od29, .func (PySem.W.fnOf "numbers_going_on" "numbers_going_on" (defArgs sNumsGoing) (defBody sNumsGoing) (defScope sNumsGoing) .none kV29 dc29 pm29 an29 cd29 ct29), sl29⟩)
    (c29 : PySem.W.codeIn K cd29 "numbers_going_on" = true)
    (k29 : PySem.W.keepIn K (.ref f29) = true)
    (a30 : PySem.W.nsIn K mainGlobals "numbers_by_likelihood" = some (some (.ref f30)))
    (l30 : K.lookup f30 = some ⟨oc30, od30, .func (PySem.W.fnOf "numbers_by_likelihood" "numbers_by_likelihood" (defArgs sNumsLike) (defBody sNumsLike) (defScope sNumsLike) .none kV30 dc30 pm30 an30 (.ref cP) ct30), sl30⟩)
    (c30 : PySem.W.codeIn K (.ref cP) "numbers_by_likelihood" = true)
    (k30 : PySem.W.keepIn K (.ref f30) = true)
    (a31 : PySem.W.nsIn K mainGlobals "lengths_beginning" = some (some (.ref f31)))
    (l31 : K.lookup f31 = some ⟨oc31, od31, .func (PySem.W.fnOf "lengths_beginning" "lengths_beginning" (defArgs sLensBeg) (defBody sLensBeg) (defScope sLensBeg) .none kV31 dc31 pm31 an31 cd31 ct31), sl31⟩)
    (c31 : PySem.W.codeIn K cd31 "lengths_beginning" = true)
    (k31 : PySem.W.keepIn K (.ref f31) = true)
    (a32 : PySem.W.nsIn K mainGlobals "row_refusal" = some (some (.ref f32)))
    (l32 : K.lookup f32 = some ⟨oc32, od32, .func (PySem.W.fnOf "row_refusal" "row_refusal" (defArgs sRefusal) (defBody sRefusal) (defScope sRefusal) .none kV32 dc32 pm32 an32 cd32 ct32), sl32⟩)
    (c32 : PySem.W.codeIn K cd32 "row_refusal" = true)
    (k32 : PySem.W.keepIn K (.ref f32) = true)
    (a33 : PySem.W.nsIn K mainGlobals "number_answer" = some (some (.ref f33)))
    (l33 : K.lookup f33 = some ⟨oc33, od33, .func (PySem.W.fnOf "number_answer" "number_answer" (defArgs sNumberAns) (defBody sNumberAns) (defScope sNumberAns) .none kV33 dc33 pm33 an33 cd33 ct33), sl33⟩)
    (c33 : PySem.W.codeIn K cd33 "number_answer" = true)
    (k33 : PySem.W.keepIn K (.ref f33) = true)
    (a34 : PySem.W.nsIn K mainGlobals "likely_answer" = some (some (.ref f34)))
    (l34 : K.lookup f34 = some ⟨oc34, od34, .func (PySem.W.fnOf "likely_answer" "likely_answer" (defArgs sLikelyAns) (defBody sLikelyAns) (defScope sLikelyAns) .none kV34 dc34 pm34 an34 cd34 ct34), sl34⟩)
    (c34 : PySem.W.codeIn K cd34 "likely_answer" = true)
    (k34 : PySem.W.keepIn K (.ref f34) = true)
    (a35 : PySem.W.nsIn K mainGlobals "asked_answer" = some (some (.ref f35)))
    (l35 : K.lookup f35 = some ⟨oc35, od35, .func (PySem.W.fnOf "asked_answer" "asked_answer" (defArgs sAsked) (defBody sAsked) (defScope sAsked) .none kV35 dc35 pm35 an35 cd35 ct35), sl35⟩)
    (c35 : PySem.W.codeIn K cd35 "asked_answer" = true)
    (k35 : PySem.W.keepIn K (.ref f35) = true)
    (q_tab : K.lookup cP = some ⟨qc, qd, .fields qv, qs⟩)
    (q_at : qv[11]? = some (.ref tP))
    (q_no : K.lookup tP = none)
    (aCW : PySem.W.nsIn K mainGlobals "Word" = some (some (.ref CW)))
    (aCL : PySem.W.nsIn K mainGlobals "Lexicon" = some (some (.ref CL)))
    (aCG : PySem.W.nsIn K mainGlobals "Given" = some (some (.ref CG)))
    (a36 : PySem.W.findIn K (.ref CW) "__init__" = some (some (.ref f36)))
    (i36 : PySem.W.isFn K (.ref f36) = true)
    (l36 : K.lookup f36 = some ⟨oc36, od36, .func (PySem.W.fnOf "__init__" "Word.__init__" (defArgs sWInit) (defBody sWInit) (defScope sWInit) .none kV36 dc36 pm36 an36 cd36 ct36), sl36⟩)
    (c36 : PySem.W.codeIn K cd36 "Word.__init__" = true)
    (k36 : PySem.W.keepIn K (.ref f36) = true)
    (a37 : PySem.W.findIn K (.ref CL) "__init__" = some (some (.ref f37)))
    (i37 : PySem.W.isFn K (.ref f37) = true)
    (l37 : K.lookup f37 = some ⟨oc37, od37, .func (PySem.W.fnOf "__init__" "Lexicon.__init__" (defArgs sLInit) (defBody sLInit) (defScope sLInit) .none kV37 dc37 pm37 an37 cd37 ct37), sl37⟩)
    (c37 : PySem.W.codeIn K cd37 "Lexicon.__init__" = true)
    (k37 : PySem.W.keepIn K (.ref f37) = true)
    (a38 : PySem.W.findIn K (.ref CL) "keep" = some (some (.ref f38)))
    (i38 : PySem.W.isFn K (.ref f38) = true)
    (l38 : K.lookup f38 = some ⟨oc38, od38, .func (PySem.W.fnOf "keep" "Lexicon.keep" (defArgs sKeep) (defBody sKeep) (defScope sKeep) .none kV38 dc38 pm38 an38 cd38 ct38), sl38⟩)
    (c38 : PySem.W.codeIn K cd38 "Lexicon.keep" = true)
    (k38 : PySem.W.keepIn K (.ref f38) = true)
    (a39 : PySem.W.findIn K (.ref CL) "begin" = some (some (.ref f39)))
    (i39 : PySem.W.isFn K (.ref f39) = true)
    (l39 : K.lookup f39 = some ⟨oc39, od39, .func (PySem.W.fnOf "begin" "Lexicon.begin" (defArgs sBegin) (defBody sBegin) (defScope sBegin) .none kV39 dc39 pm39 an39 cd39 ct39), sl39⟩)
    (c39 : PySem.W.codeIn K cd39 "Lexicon.begin" = true)
    (k39 : PySem.W.keepIn K (.ref f39) = true)
    (a40 : PySem.W.findIn K (.ref CL) "read" = some (some (.ref f40)))
    (i40 : PySem.W.isFn K (.ref f40) = true)
    (l40 : K.lookup f40 = some ⟨oc40, od40, .func (PySem.W.fnOf "read" "Lexicon.read" (defArgs sRead) (defBody sRead) (defScope sRead) .none kV40 dc40 pm40 an40 cd40 ct40), sl40⟩)
    (c40 : PySem.W.codeIn K cd40 "Lexicon.read" = true)
    (k40 : PySem.W.keepIn K (.ref f40) = true)
    (a41 : PySem.W.findIn K (.ref CL) "write" = some (some (.ref f41)))
    (i41 : PySem.W.isFn K (.ref f41) = true)
    (l41 : K.lookup f41 = some ⟨oc41, od41, .func (PySem.W.fnOf "write" "Lexicon.write" (defArgs sWrite) (defBody sWrite) (defScope sWrite) .none kV41 dc41 pm41 an41 cd41 ct41), sl41⟩)
    (c41 : PySem.W.codeIn K cd41 "Lexicon.write" = true)
    (k41 : PySem.W.keepIn K (.ref f41) = true)
    (a42 : PySem.W.findIn K (.ref CL) "count" = some (some (.ref f42)))
    (i42 : PySem.W.isFn K (.ref f42) = true)
    (l42 : K.lookup f42 = some ⟨oc42, od42, .func (PySem.W.fnOf "count" "Lexicon.count" (defArgs sCount) (defBody sCount) (defScope sCount) .none kV42 dc42 pm42 an42 cd42 ct42), sl42⟩)
    (c42 : PySem.W.codeIn K cd42 "Lexicon.count" = true)
    (k42 : PySem.W.keepIn K (.ref f42) = true)
    (a43 : PySem.W.findIn K (.ref CL) "put" = some (some (.ref f43)))
    (i43 : PySem.W.isFn K (.ref f43) = true)
    (l43 : K.lookup f43 = some ⟨oc43, od43, .func (PySem.W.fnOf "put" "Lexicon.put" (defArgs sPut) (defBody sPut) (defScope sPut) .none kV43 dc43 pm43 an43 cd43 ct43), sl43⟩)
    (c43 : PySem.W.codeIn K cd43 "Lexicon.put" = true)
    (k43 : PySem.W.keepIn K (.ref f43) = true)
    (a44 : PySem.W.findIn K (.ref CL) "drop" = some (some (.ref f44)))
    (i44 : PySem.W.isFn K (.ref f44) = true)
    (l44 : K.lookup f44 = some ⟨oc44, od44, .func (PySem.W.fnOf "drop" "Lexicon.drop" (defArgs sDrop) (defBody sDrop) (defScope sDrop) .none kV44 dc44 pm44 an44 cd44 ct44), sl44⟩)
    (c44 : PySem.W.codeIn K cd44 "Lexicon.drop" = true)
    (k44 : PySem.W.keepIn K (.ref f44) = true)
    (a45 : PySem.W.findIn K (.ref CL) "get" = some (some (.ref f45)))
    (i45 : PySem.W.isFn K (.ref f45) = true)
    (l45 : K.lookup f45 = some ⟨oc45, od45, .func (PySem.W.fnOf "get" "Lexicon.get" (defArgs sGet) (defBody sGet) (defScope sGet) .none kV45 dc45 pm45 an45 cd45 ct45), sl45⟩)
    (c45 : PySem.W.codeIn K cd45 "Lexicon.get" = true)
    (k45 : PySem.W.keepIn K (.ref f45) = true)
    (a46 : PySem.W.findIn K (.ref CL) "number" = some (some (.ref f46)))
    (i46 : PySem.W.isFn K (.ref f46) = true)
    (l46 : K.lookup f46 = some ⟨oc46, od46, .func (PySem.W.fnOf "number" "Lexicon.number" (defArgs sNumber) (defBody sNumber) (defScope sNumber) .none kV46 dc46 pm46 an46 cd46 ct46), sl46⟩)
    (c46 : PySem.W.codeIn K cd46 "Lexicon.number" = true)
    (k46 : PySem.W.keepIn K (.ref f46) = true)
    (a47 : PySem.W.findIn K (.ref CL) "find" = some (some (.ref f47)))
    (i47 : PySem.W.isFn K (.ref f47) = true)
    (l47 : K.lookup f47 = some ⟨oc47, od47, .func (PySem.W.fnOf "find" "Lexicon.find" (defArgs sFind) (defBody sFind) (defScope sFind) .none kV47 dc47 pm47 an47 cd47 ct47), sl47⟩)
    (c47 : PySem.W.codeIn K cd47 "Lexicon.find" = true)
    (k47 : PySem.W.keepIn K (.ref f47) = true)
    (a48 : PySem.W.findIn K (.ref CL) "begins" = some (some (.ref f48)))
    (i48 : PySem.W.isFn K (.ref f48) = true)
    (l48 : K.lookup f48 = some ⟨oc48, od48, .func (PySem.W.fnOf "begins" "Lexicon.begins" (defArgs sBegins) (defBody sBegins) (defScope sBegins) .none kV48 dc48 pm48 an48 cd48 ct48), sl48⟩)
    (c48 : PySem.W.codeIn K cd48 "Lexicon.begins" = true)
    (k48 : PySem.W.keepIn K (.ref f48) = true)
    (a49 : PySem.W.findIn K (.ref CL) "goes" = some (some (.ref f49)))
    (i49 : PySem.W.isFn K (.ref f49) = true)
    (l49 : K.lookup f49 = some ⟨oc49, od49, .func (PySem.W.fnOf "goes" "Lexicon.goes" (defArgs sGoes) (defBody sGoes) (defScope sGoes) .none kV49 dc49 pm49 an49 cd49 ct49), sl49⟩)
    (c49 : PySem.W.codeIn K cd49 "Lexicon.goes" = true)
    (k49 : PySem.W.keepIn K (.ref f49) = true)
    (a50 : PySem.W.findIn K (.ref CL) "likely" = some (some (.ref f50)))
    (i50 : PySem.W.isFn K (.ref f50) = true)
    (l50 : K.lookup f50 = some ⟨oc50, od50, .func (PySem.W.fnOf "likely" "Lexicon.likely" (defArgs sLikely) (defBody sLikely) (defScope sLikely) .none kV50 dc50 pm50 an50 cd50 ct50), sl50⟩)
    (c50 : PySem.W.codeIn K cd50 "Lexicon.likely" = true)
    (k50 : PySem.W.keepIn K (.ref f50) = true)
    (a51 : PySem.W.findIn K (.ref CG) "__init__" = some (some (.ref f51)))
    (i51 : PySem.W.isFn K (.ref f51) = true)
    (l51 : K.lookup f51 = some ⟨oc51, od51, .func (PySem.W.fnOf "__init__" "Given.__init__" (defArgs sGInit) (defBody sGInit) (defScope sGInit) .none kV51 dc51 pm51 an51 cd51 ct51), sl51⟩)
    (c51 : PySem.W.codeIn K cd51 "Given.__init__" = true)
    (k51 : PySem.W.keepIn K (.ref f51) = true)
    (a52 : PySem.W.findIn K (.ref CG) "has_more" = some (some (.ref f52)))
    (i52 : PySem.W.isFn K (.ref f52) = true)
    (l52 : K.lookup f52 = some ⟨oc52, od52, .func (PySem.W.fnOf "has_more" "Given.has_more" (defArgs sHasMore) (defBody sHasMore) (defScope sHasMore) .none kV52 dc52 pm52 an52 cd52 ct52), sl52⟩)
    (c52 : PySem.W.codeIn K cd52 "Given.has_more" = true)
    (k52 : PySem.W.keepIn K (.ref f52) = true)
    (a53 : PySem.W.findIn K (.ref CG) "take_number" = some (some (.ref f53)))
    (i53 : PySem.W.isFn K (.ref f53) = true)
    (l53 : K.lookup f53 = some ⟨oc53, od53, .func (PySem.W.fnOf "take_number" "Given.take_number" (defArgs sTakeN) (defBody sTakeN) (defScope sTakeN) .none kV53 dc53 pm53 an53 cd53 ct53), sl53⟩)
    (c53 : PySem.W.codeIn K cd53 "Given.take_number" = true)
    (k53 : PySem.W.keepIn K (.ref f53) = true)
    (a54 : PySem.W.findIn K (.ref CG) "take_row" = some (some (.ref f54)))
    (i54 : PySem.W.isFn K (.ref f54) = true)
    (l54 : K.lookup f54 = some ⟨oc54, od54, .func (PySem.W.fnOf "take_row" "Given.take_row" (defArgs sTakeRow) (defBody sTakeRow) (defScope sTakeRow) .none kV54 dc54 pm54 an54 cd54 ct54), sl54⟩)
    (c54 : PySem.W.codeIn K cd54 "Given.take_row" = true)
    (k54 : PySem.W.keepIn K (.ref f54) = true)
    (pgCW : PySem.W.plainGet K CW Str.empty = true)
    (hdCW : PySem.W.hasDictIn K CW = true)
    (poCW : PySem.W.plainOver K CW = true)
    (saCW : PySem.W.findIn K (.ref CW) "__setattr__" = some (some (.builtin "object.__setattr__")))
    (mkCW : PySem.W.makesIn K CW = true)
    (kcCW : PySem.W.keepIn K (.ref CW) = true)
    (nCW_reading : PySem.W.findIn K (.ref CW) "reading" = some none)
    (nCW_text : PySem.W.findIn K (.ref CW) "text" = some none)
    (nCW_left : PySem.W.findIn K (.ref CW) "left" = some none)
    (nCW_right : PySem.W.findIn K (.ref CW) "right" = some none)
    (nCW_cost : PySem.W.findIn K (.ref CW) "cost" = some none)
    (pgCL : PySem.W.plainGet K CL Str.empty = true)
    (hdCL : PySem.W.hasDictIn K CL = true)
    (poCL : PySem.W.plainOver K CL = true)
    (saCL : PySem.W.findIn K (.ref CL) "__setattr__" = some (some (.builtin "object.__setattr__")))
    (mkCL : PySem.W.makesIn K CL = true)
    (kcCL : PySem.W.keepIn K (.ref CL) = true)
    (nCL_words : PySem.W.findIn K (.ref CL) "words" = some none)
    (nCL_written : PySem.W.findIn K (.ref CL) "written" = some none)
    (pgCG : PySem.W.plainGet K CG Str.empty = true)
    (hdCG : PySem.W.hasDictIn K CG = true)
    (poCG : PySem.W.plainOver K CG = true)
    (saCG : PySem.W.findIn K (.ref CG) "__setattr__" = some (some (.builtin "object.__setattr__")))
    (mkCG : PySem.W.makesIn K CG = true)
    (kcCG : PySem.W.keepIn K (.ref CG) = true)
    (nCG_numbers : PySem.W.findIn K (.ref CG) "numbers" = some none)
    (nCG_place : PySem.W.findIn K (.ref CG) "place" = some none)
    (z_FIRST_SURROGATE : PySem.W.nsIn K mainGlobals "FIRST_SURROGATE" = some (some (.int 55296 t_FIRST_SURROGATE)))
    (z_LAST_SURROGATE : PySem.W.nsIn K mainGlobals "LAST_SURROGATE" = some (some (.int 57343 t_LAST_SURROGATE)))
    (z_CHARACTERS_END : PySem.W.nsIn K mainGlobals "CHARACTERS_END" = some (some (.int 1114112 t_CHARACTERS_END)))
    (z_BLANK : PySem.W.nsIn K mainGlobals "BLANK" = some (some (.int 32 t_BLANK)))
    (z_DELETE : PySem.W.nsIn K mainGlobals "DELETE" = some (some (.int 127 t_DELETE)))
    (z_MOST_CHARACTERS : PySem.W.nsIn K mainGlobals "MOST_CHARACTERS" = some (some (.int 32 t_MOST_CHARACTERS)))
    (z_MOST_SORT : PySem.W.nsIn K mainGlobals "MOST_SORT" = some (some (.int 255 t_MOST_SORT)))
    (z_MOST_COST : PySem.W.nsIn K mainGlobals "MOST_COST" = some (some (.int 65535 t_MOST_COST)))
    (z_MOST_WORDS : PySem.W.nsIn K mainGlobals "MOST_WORDS" = some (some (.int 128 t_MOST_WORDS)))
    (z_LINE_END : PySem.W.nsIn K mainGlobals "LINE_END" = some (some (.int 10 t_LINE_END)))
    (z_DIGIT_0 : PySem.W.nsIn K mainGlobals "DIGIT_0" = some (some (.int 48 t_DIGIT_0)))
    (z_DIGIT_9 : PySem.W.nsIn K mainGlobals "DIGIT_9" = some (some (.int 57 t_DIGIT_9)))
    (z_PARTS : PySem.W.nsIn K mainGlobals "PARTS" = some (some (.int 5 t_PARTS)))
    (z_TOO_LARGE : PySem.W.nsIn K mainGlobals "TOO_LARGE" = some (some (.int 65536 t_TOO_LARGE)))
    (z_NO_FAULT : PySem.W.nsIn K mainGlobals "NO_FAULT" = some (some (.int 0 t_NO_FAULT)))
    (z_NO_LINE : PySem.W.nsIn K mainGlobals "NO_LINE" = some (some (.int 1 t_NO_LINE)))
    (z_BEYOND_LIMITS : PySem.W.nsIn K mainGlobals "BEYOND_LIMITS" = some (some (.int 2 t_BEYOND_LIMITS)))
    (z_SAME_AS_BEFORE : PySem.W.nsIn K mainGlobals "SAME_AS_BEFORE" = some (some (.int 3 t_SAME_AS_BEFORE)))
    (z_TOO_MANY : PySem.W.nsIn K mainGlobals "TOO_MANY" = some (some (.int 4 t_TOO_MANY)))
    (z_MOST_BYTES : PySem.W.nsIn K mainGlobals "MOST_BYTES" = some (some (.int 65536 t_MOST_BYTES)))
    (z_TOO_LONG : PySem.W.nsIn K mainGlobals "TOO_LONG" = some (some (.int (-1) t_TOO_LONG)))
    (z_FAULTY : PySem.W.nsIn K mainGlobals "FAULTY" = some (some (.int (-2) t_FAULTY)))
    (z_NO_WORD : PySem.W.nsIn K mainGlobals "NO_WORD" = some (some (.int (-3) t_NO_WORD)))
    (z_NO_SUCH_NUMBER : PySem.W.nsIn K mainGlobals "NO_SUCH_NUMBER" = some (some (.int (-4) t_NO_SUCH_NUMBER)))
    (z_FULL : PySem.W.nsIn K mainGlobals "FULL" = some (some (.int (-6) t_FULL)))
    (z_BEGIN : PySem.W.nsIn K mainGlobals "BEGIN" = some (some (.int 1 t_BEGIN)))
    (z_READ : PySem.W.nsIn K mainGlobals "READ" = some (some (.int 2 t_READ)))
    (z_WRITE : PySem.W.nsIn K mainGlobals "WRITE" = some (some (.int 3 t_WRITE)))
    (z_COUNT : PySem.W.nsIn K mainGlobals "COUNT" = some (some (.int 4 t_COUNT)))
    (z_PUT : PySem.W.nsIn K mainGlobals "PUT" = some (some (.int 5 t_PUT)))
    (z_DROP : PySem.W.nsIn K mainGlobals "DROP" = some (some (.int 6 t_DROP)))
    (z_MOST_ASKED : PySem.W.nsIn K mainGlobals "MOST_ASKED" = some (some (.int 64 t_MOST_ASKED)))
    (z_NO_REFUSAL : PySem.W.nsIn K mainGlobals "NO_REFUSAL" = some (some (.int 0 t_NO_REFUSAL)))
    (z_NO_CHARACTER : PySem.W.nsIn K mainGlobals "NO_CHARACTER" = some (some (.int (-3) t_NO_CHARACTER)))
    (z_NONE_FOUND : PySem.W.nsIn K mainGlobals "NONE_FOUND" = some (some (.int (-5) t_NONE_FOUND)))
    (z_GET : PySem.W.nsIn K mainGlobals "GET" = some (some (.int 7 t_GET)))
    (z_NUMBER : PySem.W.nsIn K mainGlobals "NUMBER" = some (some (.int 8 t_NUMBER)))
    (z_FIND : PySem.W.nsIn K mainGlobals "FIND" = some (some (.int 9 t_FIND)))
    (z_BEGINS : PySem.W.nsIn K mainGlobals "BEGINS" = some (some (.int 10 t_BEGINS)))
    (z_GOES : PySem.W.nsIn K mainGlobals "GOES" = some (some (.int 11 t_GOES)))
    (z_LIKELY : PySem.W.nsIn K mainGlobals "LIKELY" = some (some (.int 12 t_LIKELY)))
    (z_LL : PySem.W.nsIn K mainGlobals "LEAST_OF_LENGTH" = some (some (.ref tA)))
    (l_LL : K.lookup tA = some ⟨.type "tuple", dA, .seq iA nA, sA⟩)
    (h_LL : iA.size ≤ sizeLine ∧ Vals [.int 0, .int 0, .int 128, .int 2048, .int 65536] iA.toList)
    (z_len : PySem.W.nsIn K mainGlobals "len" = some none)
    (z_all : PySem.W.nsIn K mainGlobals "all" = some none)
    (z_any : PySem.W.nsIn K mainGlobals "any" = some none)
    (z_min : PySem.W.nsIn K mainGlobals "min" = some none)
    (z_ord : PySem.W.nsIn K mainGlobals "ord" = some none)
    (z_str : PySem.W.nsIn K mainGlobals "str" = some none)
    (z_enumerate : PySem.W.nsIn K mainGlobals "enumerate" = some none)
    (z_sorted : PySem.W.nsIn K mainGlobals "sorted" = some none)
    : ∃ (fd : FuncData) (cP tP : Addr), PySem.W.tabIn K "numbers_by_likelihood" = some (cP, tP) ∧ K.lookup tP = none ∧ (∀ (s : Shared) (us : List Value), us.length = (["calls"] : List Str).length → BindsTo s fd ⟨us, []⟩ ((["calls"] : List Str).zip us)) ∧ ∀ base : Heap, K.In base → base.Ns mainGlobals mg → LamX.TabB base mg cP tP → FnOk P w K mg base CX0 10 fa fd ["calls"] (spAnswers K tP) := by
  have e := hfa.symm.trans (PySem.W.mg_of X G a23)
  cases e
  have F0 := fun_mk (st := sIsChar) l0 c0 k0
  have d0 : Dn K mg "is_character" sIsChar ["number"] f0 _ := ⟨F0, F0.binds (ps := ["number"]) fun _ _ _ _ _ _ us hl => match us, hl with | [_], _ => rfl, PySem.W.mg_of X G a0, k0⟩
  have F1 := fun_mk (st := sMayStand) l1 c1 k1
  have d1 : Dn K mg "may_stand" sMayStand ["number"] f1 _ := ⟨F1, F1.binds (ps := ["number"]) fun _ _ _ _ _ _ us hl => match us, hl with | [_], _ => rfl, PySem.W.mg_of X G a1, k1⟩
  have F2 := fun_mk (st := sAllMay) l2 c2 k2
  have d2 : Dn K mg "all_may_stand" sAllMay ["row"] f2 _ := ⟨F2, F2.binds (ps := ["row"]) fun _ _ _ _ _ _ us hl => match us, hl with | [_], _ => rfl, PySem.W.mg_of X G a2, k2⟩
  have F3 := fun_mk (st := sIsRow) l3 c3 k3
  have d3 : Dn K mg "is_row" sIsRow ["row"] f3 _ := ⟨F3, F3.binds (ps := ["row"]) fun _ _ _ _ _ _ us hl => match us, hl with | [_], _ => rfl, PySem.W.mg_of X G a3, k3⟩
  have F4 := fun_mk (st := sIsWord) l4 c4 k4
  have d4 : Dn K mg "is_word" sIsWord ["word"] f4 _ := ⟨F4, F4.binds (ps := ["word"]) fun _ _ _ _ _ _ us hl => match us, hl with | [_], _ => rfl, PySem.W.mg_of X G a4, k4⟩
  have F5 := fun_mk (st := sIsSame) l5 c5 k5
  have d5 : Dn K mg "is_same" sIsSame ["word", "other"] f5 _ := ⟨F5, F5.binds (ps := ["word", "other"]) fun _ _ _ _ _ _ us hl => match us, hl with | [_, _], _ => rfl, PySem.W.mg_of X G a5, k5⟩
  have F6 := fun_mk (st := sOrderOf) l6 c6 k6
  have d6 : Dn K mg "order_of" sOrderOf ["word"] f6 _ := ⟨F6, F6.binds (ps := ["word"]) fun _ _ _ _ _ _ us hl => match us, hl with | [_], _ => rfl, PySem.W.mg_of X G a6, k6⟩
  have F7 := fun_mk (st := sLenTold) l7 c7 k7
  have d7 : Dn K mg "length_told" sLenTold ["lead"] f7 _ := ⟨F7, F7.binds (ps := ["lead"]) fun _ _ _ _ _ _ us hl => match us, hl with | [_], _ => rfl, PySem.W.mg_of X G a7, k7⟩
  have F8 := fun_mk (st := sCharAt) l8 c8 k8
  have d8 : Dn K mg "character_at" sCharAt ["data", "start"] f8 _ := ⟨F8, F8.binds (ps := ["data", "start"]) fun _ _ _ _ _ _ us hl => match us, hl with | [_, _], _ => rfl, PySem.W.mg_of X G a8, k8⟩
  have F9 := fun_mk (st := sDecoded) l9 c9 k9
  have d9 : Dn K mg "decoded" sDecoded ["data"] f9 _ := ⟨F9, F9.binds (ps := ["data"]) fun _ _ _ _ _ _ us hl => match us, hl with | [_], _ => rfl, PySem.W.mg_of X G a9, k9⟩
  have F10 := fun_mk (st := sBytesOf) l10 c10 k10
  have d10 : Dn K mg "bytes_of" sBytesOf ["character"] f10 _ := ⟨F10, F10.binds (ps := ["character"]) fun _ _ _ _ _ _ us hl => match us, hl with | [_], _ => rfl, PySem.W.mg_of X G a10, k10⟩
  have F11 := fun_mk (st := sEncoded) l11 c11 k11
  have d11 : Dn K mg "encoded" sEncoded ["row"] f11 _ := ⟨F11, F11.binds (ps := ["row"]) fun _ _ _ _ _ _ us hl => match us, hl with | [_], _ => rfl, PySem.W.mg_of X G a11, k11⟩
  have F12 := fun_mk (st := sLinesOf) l12 c12 k12
  have d12 : Dn K mg "lines_of" sLinesOf ["data"] f12 _ := ⟨F12, F12.binds (ps := ["data"]) fun _ _ _ _ _ _ us hl => match us, hl with | [_], _ => rfl, PySem.W.mg_of X G a12, k12⟩
  have F13 := fun_mk (st := sPartsOf) l13 c13 k13
  have d13 : Dn K mg "parts_of" sPartsOf ["row"] f13 _ := ⟨F13, F13.binds (ps := ["row"]) fun _ _ _ _ _ _ us hl => match us, hl with | [_], _ => rfl, PySem.W.mg_of X G a13, k13⟩
  have F14 := fun_mk (st := sNumberIn) l14 c14 k14
  have d14 : Dn K mg "number_in" sNumberIn ["part"] f14 _ := ⟨F14, F14.binds (ps := ["part"]) fun _ _ _ _ _ _ us hl => match us, hl with | [_], _ => rfl, PySem.W.mg_of X G a14, k14⟩
  have F15 := fun_mk (st := sIsFilled) l15 c15 k15
  have d15 : Dn K mg "is_filled" sIsFilled ["part"] f15 _ := ⟨F15, F15.binds (ps := ["part"]) fun _ _ _ _ _ _ us hl => match us, hl with | [_], _ => rfl, PySem.W.mg_of X G a15, k15⟩
  have F16 := fun_mk (st := sWordIn) l16 c16 k16
  have d16 : Dn K mg "word_in" sWordIn ["line"] f16 _ := ⟨F16, F16.binds (ps := ["line"]) fun _ _ _ _ _ _ us hl => match us, hl with | [_], _ => rfl, PySem.W.mg_of X G a16, k16⟩
  have F17 := fun_mk (st := sFaultKind) l17 c17 k17
  have d17 : Dn K mg "fault_kind" sFaultKind ["word", "before"] f17 _ := ⟨F17, F17.binds (ps := ["word", "before"]) fun _ _ _ _ _ _ us hl => match us, hl with | [_, _], _ => rfl, PySem.W.mg_of X G a17, k17⟩
  have F18 := fun_mk (st := sDigitsOf) l18 c18 k18
  have d18 : Dn K mg "digits_of" sDigitsOf ["number"] f18 _ := ⟨F18, F18.binds (ps := ["number"]) fun _ _ _ _ _ _ us hl => match us, hl with | [_], _ => rfl, PySem.W.mg_of X G a18, k18⟩
  have F19 := fun_mk (st := sLineOf) l19 c19 k19
  have d19 : Dn K mg "line_of" sLineOf ["word"] f19 _ := ⟨F19, F19.binds (ps := ["word"]) fun _ _ _ _ _ _ us hl => match us, hl with | [_], _ => rfl, PySem.W.mg_of X G a19, k19⟩
  have F20 := fun_mk (st := sTextOf) l20 c20 k20
  have d20 : Dn K mg "text_of" sTextOf ["words"] f20 _ := ⟨F20, F20.binds (ps := ["words"]) fun _ _ _ _ _ _ us hl => match us, hl with | [_], _ => rfl, PySem.W.mg_of X G a20, k20⟩
  have F21 := fun_mk (st := sTakeWord) l21 c21 k21
  have d21 : Dn K mg "take_word" sTakeWord ["given"] f21 _ := ⟨F21, F21.binds (ps := ["given"]) fun _ _ _ _ _ _ us hl => match us, hl with | [_], _ => rfl, PySem.W.mg_of X G a21, k21⟩
  have F22 := fun_mk (st := sAnswerOf) l22 c22 k22
  have d22 : Dn K mg "answer_of" sAnswerOf ["given", "lexicon"] f22 _ := ⟨F22, F22.binds (ps := ["given", "lexicon"]) fun _ _ _ _ _ _ us hl => match us, hl with | [_, _], _ => rfl, PySem.W.mg_of X G a22, k22⟩
  have F23 := fun_mk (st := sAnswers) l23 c23 k23
  have d23 : Dn K mg "answers" sAnswers ["calls"] fa _ := ⟨F23, F23.binds (ps := ["calls"]) fun _ _ _ _ _ _ us hl => match us, hl with | [_], _ => rfl, PySem.W.mg_of X G a23, k23⟩
  have F24 := fun_mk (st := sAllChar) l24 c24 k24
  have d24 : Dn K mg "all_characters" sAllChar ["row"] f24 _ := ⟨F24, F24.binds (ps := ["row"]) fun _ _ _ _ _ _ us hl => match us, hl with | [_], _ => rfl, PySem.W.mg_of X G a24, k24⟩
  have F25 := fun_mk (st := sLikeOrder) l25 c25 k25
  have d25 : Dn K mg "likely_order_of" sLikeOrder ["word"] f25 _ := ⟨F25, F25.binds (ps := ["word"]) fun _ _ _ _ _ _ us hl => match us, hl with | [_], _ => rfl, PySem.W.mg_of X G a25, k25⟩
  have F26 := fun_mk (st := sHasBeg) l26 c26 k26
  have d26 : Dn K mg "has_beginning" sHasBeg ["row", "beginning"] f26 _ := ⟨F26, F26.binds (ps := ["row", "beginning"]) fun _ _ _ _ _ _ us hl => match us, hl with | [_, _], _ => rfl, PySem.W.mg_of X G a26, k26⟩
  have F27 := fun_mk (st := sCountBefore) l27 c27 k27
  have d27 : Dn K mg "count_before" sCountBefore ["words", "row"] f27 _ := ⟨F27, F27.binds (ps := ["words", "row"]) fun _ _ _ _ _ _ us hl => match us, hl with | [_, _], _ => rfl, PySem.W.mg_of X G a27, k27⟩
  have F28 := fun_mk (st := sCountReading) l28 c28 k28
  have d28 : Dn K mg "count_of_reading" sCountReading ["words", "row"] f28 _ := ⟨F28, F28.binds (ps := ["words", "row"]) fun _ _ _ _ _ _ us hl => match us, hl with | [_, _], _ => rfl, PySem.W.mg_of X G a28, k28⟩
  have F29 := fun_mk (st := sNumsGoing) l29 c29 k29
  have d29 : Dn K mg "numbers_going_on" sNumsGoing ["words", "row"] f29 _ := ⟨F29, F29.binds (ps := ["words", "row"]) fun _ _ _ _ _ _ us hl => match us, hl with | [_, _], _ => rfl, PySem.W.mg_of X G a29, k29⟩
  have F30 := fun_mk (st := sNumsLike) l30 c30 k30
  have d30 : Dn K mg "numbers_by_likelihood" sNumsLike ["words", "row"] f30 _ := ⟨F30, F30.binds (ps := ["words", "row"]) fun _ _ _ _ _ _ us hl => match us, hl with | [_, _], _ => rfl, PySem.W.mg_of X G a30, k30⟩
  have F31 := fun_mk (st := sLensBeg) l31 c31 k31
  have d31 : Dn K mg "lengths_beginning" sLensBeg ["words", "row"] f31 _ := ⟨F31, F31.binds (ps := ["words", "row"]) fun _ _ _ _ _ _ us hl => match us, hl with | [_, _], _ => rfl, PySem.W.mg_of X G a31, k31⟩
  have F32 := fun_mk (st := sRefusal) l32 c32 k32
  have d32 : Dn K mg "row_refusal" sRefusal ["rows"] f32 _ := ⟨F32, F32.binds (ps := ["rows"]) fun _ _ _ _ _ _ us hl => match us, hl with | [_], _ => rfl, PySem.W.mg_of X G a32, k32⟩
  have F33 := fun_mk (st := sNumberAns) l33 c33 k33
  have d33 : Dn K mg "number_answer" sNumberAns ["given", "lexicon"] f33 _ := ⟨F33, F33.binds (ps := ["given", "lexicon"]) fun _ _ _ _ _ _ us hl => match us, hl with | [_, _], _ => rfl, PySem.W.mg_of X G a33, k33⟩
  have F34 := fun_mk (st := sLikelyAns) l34 c34 k34
  have d34 : Dn K mg "likely_answer" sLikelyAns ["given", "lexicon"] f34 _ := ⟨F34, F34.binds (ps := ["given", "lexicon"]) fun _ _ _ _ _ _ us hl => match us, hl with | [_, _], _ => rfl, PySem.W.mg_of X G a34, k34⟩
  have F35 := fun_mk (st := sAsked) l35 c35 k35
  have d35 : Dn K mg "asked_answer" sAsked ["call", "given", "lexicon"] f35 _ := ⟨F35, F35.binds (ps := ["call", "given", "lexicon"]) fun _ _ _ _ _ _ us hl => match us, hl with | [_, _, _], _ => rfl, PySem.W.mg_of X G a35, k35⟩
  have F36 := fun_mk (st := sWInit) l36 c36 k36
  have m36 : Mn K CW "__init__" "Word.__init__" sWInit ["self", "reading", "text", "left", "right", "cost"] f36 _ := ⟨F36, F36.binds (ps := ["self", "reading", "text", "left", "right", "cost"]) fun _ _ _ _ _ _ us hl => match us, hl with | [_, _, _, _, _, _], _ => rfl, ⟨a36, i36, k36⟩⟩
  have F37 := fun_mk (st := sLInit) l37 c37 k37
  have m37 : Mn K CL "__init__" "Lexicon.__init__" sLInit ["self"] f37 _ := ⟨F37, F37.binds (ps := ["self"]) fun _ _ _ _ _ _ us hl => match us, hl with | [_], _ => rfl, ⟨a37, i37, k37⟩⟩
  have F38 := fun_mk (st := sKeep) l38 c38 k38
  have m38 : Mn K CL "keep" "Lexicon.keep" sKeep ["self", "words"] f38 _ := ⟨F38, F38.binds (ps := ["self", "words"]) fun _ _ _ _ _ _ us hl => match us, hl with | [_, _], _ => rfl, ⟨a38, i38, k38⟩⟩
  have F39 := fun_mk (st := sBegin) l39 c39 k39
  have m39 : Mn K CL "begin" "Lexicon.begin" sBegin ["self"] f39 _ := ⟨F39, F39.binds (ps := ["self"]) fun _ _ _ _ _ _ us hl => match us, hl with | [_], _ => rfl, ⟨a39, i39, k39⟩⟩
  have F40 := fun_mk (st := sRead) l40 c40 k40
  have m40 : Mn K CL "read" "Lexicon.read" sRead ["self", "data"] f40 _ := ⟨F40, F40.binds (ps := ["self", "data"]) fun _ _ _ _ _ _ us hl => match us, hl with | [_, _], _ => rfl, ⟨a40, i40, k40⟩⟩
  have F41 := fun_mk (st := sWrite) l41 c41 k41
  have m41 : Mn K CL "write" "Lexicon.write" sWrite ["self"] f41 _ := ⟨F41, F41.binds (ps := ["self"]) fun _ _ _ _ _ _ us hl => match us, hl with | [_], _ => rfl, ⟨a41, i41, k41⟩⟩
  have F42 := fun_mk (st := sCount) l42 c42 k42
  have m42 : Mn K CL "count" "Lexicon.count" sCount ["self"] f42 _ := ⟨F42, F42.binds (ps := ["self"]) fun _ _ _ _ _ _ us hl => match us, hl with | [_], _ => rfl, ⟨a42, i42, k42⟩⟩
  have F43 := fun_mk (st := sPut) l43 c43 k43
  have m43 : Mn K CL "put" "Lexicon.put" sPut ["self", "word"] f43 _ := ⟨F43, F43.binds (ps := ["self", "word"]) fun _ _ _ _ _ _ us hl => match us, hl with | [_, _], _ => rfl, ⟨a43, i43, k43⟩⟩
  have F44 := fun_mk (st := sDrop) l44 c44 k44
  have m44 : Mn K CL "drop" "Lexicon.drop" sDrop ["self", "number"] f44 _ := ⟨F44, F44.binds (ps := ["self", "number"]) fun _ _ _ _ _ _ us hl => match us, hl with | [_, _], _ => rfl, ⟨a44, i44, k44⟩⟩
  have F45 := fun_mk (st := sGet) l45 c45 k45
  have m45 : Mn K CL "get" "Lexicon.get" sGet ["self", "number"] f45 _ := ⟨F45, F45.binds (ps := ["self", "number"]) fun _ _ _ _ _ _ us hl => match us, hl with | [_, _], _ => rfl, ⟨a45, i45, k45⟩⟩
  have F46 := fun_mk (st := sNumber) l46 c46 k46
  have m46 : Mn K CL "number" "Lexicon.number" sNumber ["self", "reading", "text"] f46 _ := ⟨F46, F46.binds (ps := ["self", "reading", "text"]) fun _ _ _ _ _ _ us hl => match us, hl with | [_, _, _], _ => rfl, ⟨a46, i46, k46⟩⟩
  have F47 := fun_mk (st := sFind) l47 c47 k47
  have m47 : Mn K CL "find" "Lexicon.find" sFind ["self", "row"] f47 _ := ⟨F47, F47.binds (ps := ["self", "row"]) fun _ _ _ _ _ _ us hl => match us, hl with | [_, _], _ => rfl, ⟨a47, i47, k47⟩⟩
  have F48 := fun_mk (st := sBegins) l48 c48 k48
  have m48 : Mn K CL "begins" "Lexicon.begins" sBegins ["self", "row"] f48 _ := ⟨F48, F48.binds (ps := ["self", "row"]) fun _ _ _ _ _ _ us hl => match us, hl with | [_, _], _ => rfl, ⟨a48, i48, k48⟩⟩
  have F49 := fun_mk (st := sGoes) l49 c49 k49
  have m49 : Mn K CL "goes" "Lexicon.goes" sGoes ["self", "row"] f49 _ := ⟨F49, F49.binds (ps := ["self", "row"]) fun _ _ _ _ _ _ us hl => match us, hl with | [_, _], _ => rfl, ⟨a49, i49, k49⟩⟩
  have F50 := fun_mk (st := sLikely) l50 c50 k50
  have m50 : Mn K CL "likely" "Lexicon.likely" sLikely ["self", "rank", "row"] f50 _ := ⟨F50, F50.binds (ps := ["self", "rank", "row"]) fun _ _ _ _ _ _ us hl => match us, hl with | [_, _, _], _ => rfl, ⟨a50, i50, k50⟩⟩
  have F51 := fun_mk (st := sGInit) l51 c51 k51
  have m51 : Mn K CG "__init__" "Given.__init__" sGInit ["self", "numbers"] f51 _ := ⟨F51, F51.binds (ps := ["self", "numbers"]) fun _ _ _ _ _ _ us hl => match us, hl with | [_, _], _ => rfl, ⟨a51, i51, k51⟩⟩
  have F52 := fun_mk (st := sHasMore) l52 c52 k52
  have m52 : Mn K CG "has_more" "Given.has_more" sHasMore ["self"] f52 _ := ⟨F52, F52.binds (ps := ["self"]) fun _ _ _ _ _ _ us hl => match us, hl with | [_], _ => rfl, ⟨a52, i52, k52⟩⟩
  have F53 := fun_mk (st := sTakeN) l53 c53 k53
  have m53 : Mn K CG "take_number" "Given.take_number" sTakeN ["self"] f53 _ := ⟨F53, F53.binds (ps := ["self"]) fun _ _ _ _ _ _ us hl => match us, hl with | [_], _ => rfl, ⟨a53, i53, k53⟩⟩
  have F54 := fun_mk (st := sTakeRow) l54 c54 k54
  have m54 : Mn K CG "take_row" "Given.take_row" sTakeRow ["self"] f54 _ := ⟨F54, F54.binds (ps := ["self"]) fun _ _ _ _ _ _ us hl => match us, hl with | [_], _ => rfl, ⟨a54, i54, k54⟩⟩
  have tTxtR : TxtR K mg CW := ⟨⟨_, PySem.W.mg_of X G z_FIRST_SURROGATE⟩, ⟨_, PySem.W.mg_of X G z_LAST_SURROGATE⟩, ⟨_, PySem.W.mg_of X G z_CHARACTERS_END⟩, ⟨_, PySem.W.mg_of X G z_BLANK⟩, ⟨_, PySem.W.mg_of X G z_DELETE⟩, ⟨_, PySem.W.mg_of X G z_MOST_CHARACTERS⟩, ⟨_, PySem.W.mg_of X G z_MOST_SORT⟩, ⟨_, PySem.W.mg_of X G z_MOST_COST⟩, PySem.W.mg_none_of X G z_len, PySem.W.mg_none_of X G z_all, ⟨pgCW, hdCW, poCW, saCW⟩, nCW_reading, nCW_text, nCW_left, nCW_right, nCW_cost, PySem.W.mg_of X G aCW⟩
  have tTxtU : TxtU K mg := ⟨⟨tA, PySem.W.mg_of X G z_LL, fun _ => .inr ⟨_, _, _, l_LL, rfl, rfl, h_LL.1, h_LL.2⟩⟩⟩
  have tTxtL : TxtL K mg := ⟨⟨_, PySem.W.mg_of X G z_LINE_END⟩, ⟨_, PySem.W.mg_of X G z_DIGIT_0⟩, ⟨_, PySem.W.mg_of X G z_DIGIT_9⟩, ⟨_, PySem.W.mg_of X G z_PARTS⟩, ⟨_, PySem.W.mg_of X G z_TOO_LARGE⟩, ⟨_, PySem.W.mg_of X G z_NO_FAULT⟩, ⟨_, PySem.W.mg_of X G z_NO_LINE⟩, ⟨_, PySem.W.mg_of X G z_BEYOND_LIMITS⟩, ⟨_, PySem.W.mg_of X G z_SAME_AS_BEFORE⟩, ⟨_, PySem.W.mg_of X G z_TOO_MANY⟩, ⟨_, PySem.W.mg_of X G z_MOST_WORDS⟩, PySem.W.mg_none_of X G z_min, PySem.W.mg_none_of X G z_any, PySem.W.mg_none_of X G z_ord, PySem.W.mg_none_of X G z_str⟩
  have tTxtX : TxtX K mg CL := ⟨⟨_, PySem.W.mg_of X G z_MOST_BYTES⟩, ⟨_, PySem.W.mg_of X G z_TOO_LONG⟩, ⟨_, PySem.W.mg_of X G z_FAULTY⟩, ⟨_, PySem.W.mg_of X G z_NO_WORD⟩, ⟨_, PySem.W.mg_of X G z_NO_SUCH_NUMBER⟩, ⟨_, PySem.W.mg_of X G z_FULL⟩, ⟨_, PySem.W.mg_of X G z_NO_FAULT⟩, ⟨_, PySem.W.mg_of X G z_MOST_WORDS⟩, PySem.W.mg_none_of X G z_len, PySem.W.mg_none_of X G z_enumerate, PySem.W.mg_none_of X G z_sorted, ⟨pgCL, hdCL, poCL, saCL⟩, nCL_words, nCL_written, PySem.W.mg_of X G aCL⟩
  have tTxtG : TxtG K mg CG := ⟨PySem.W.mg_none_of X G z_len, ⟨pgCG, hdCG, poCG, saCG⟩, nCG_numbers, nCG_place, PySem.W.mg_of X G aCG⟩
  have tTxtY : TxtY mg := ⟨⟨_, PySem.W.mg_of X G z_MOST_ASKED⟩, ⟨_, PySem.W.mg_of X G z_NO_REFUSAL⟩, ⟨_, PySem.W.mg_of X G z_NO_CHARACTER⟩, ⟨_, PySem.W.mg_of X G z_NONE_FOUND⟩, PySem.W.mg_none_of X G z_any, PySem.W.mg_none_of X G z_all⟩
  have tTxtB : TxtB mg := ⟨⟨_, PySem.W.mg_of X G z_GET⟩, ⟨_, PySem.W.mg_of X G z_NUMBER⟩, ⟨_, PySem.W.mg_of X G z_FIND⟩, ⟨_, PySem.W.mg_of X G z_BEGINS⟩, ⟨_, PySem.W.mg_of X G z_GOES⟩, ⟨_, PySem.W.mg_of X G z_LIKELY⟩⟩
  have tTxtA : TxtA mg := ⟨⟨_, PySem.W.mg_of X G z_BEGIN⟩, ⟨_, PySem.W.mg_of X G z_READ⟩, ⟨_, PySem.W.mg_of X G z_WRITE⟩, ⟨_, PySem.W.mg_of X G z_COUNT⟩, ⟨_, PySem.W.mg_of X G z_PUT⟩, ⟨_, PySem.W.mg_of X G z_DROP⟩⟩
  refine ⟨PySem.W.fnOf "answers" "answers" (defArgs sAnswers) (defBody sAnswers) (defScope sAnswers) .none kV23 dc23 pm23 an23 cd23 ct23, cP, tP, tab_in a30 l30 q_tab q_at, q_no, fun s us hu => match us, hu with | [_], _ => .of_eq rfl, fun base _ _ TB => ?_⟩
  have g_isChar := ok_isChar (P := P) (w := w) (base := base) d0 tTxtR
  have g_mayStand := ok_mayStand (P := P) (w := w) (base := base) d1 tTxtR d0 g_isChar
  have g_allMay := ok_allMay (P := P) (w := w) (base := base) d2 tTxtR d1 g_mayStand
  have g_wInit := ok_wInit (P := P) (w := w) (base := base) F36 tTxtR
  have wc : WordC P w K mg base CW f36 _ := ⟨⟨mkCW, a36, i36, kcCW⟩, m36.b, g_wInit⟩
  have g_isRow := ok_isRow (P := P) (w := w) (base := base) d3 tTxtR d2 g_allMay
  have g_isWord := ok_isWord (P := P) (w := w) (base := base) d4 tTxtR d3 g_isRow
  have g_isSame := ok_isSame (P := P) (w := w) (base := base) d5 tTxtR
  have g_orderOf := ok_orderOf (P := P) (w := w) (base := base) d6 tTxtR
  have g_lenTold := ok_lenTold (P := P) (w := w) (base := base) d7
  have g_charAt := ok_charAt (P := P) (w := w) (base := base) d8 tTxtR tTxtU d7 g_lenTold d0 g_isChar
  have g_decoded := ok_decoded (P := P) (w := w) (base := base) d9 tTxtR d7 g_lenTold d8 g_charAt
  have g_bytesOf := ok_bytesOf (P := P) (w := w) (base := base) d10
  have g_encoded := ok_encoded (P := P) (w := w) (base := base) d11 d10 g_bytesOf
  have g_linesOf := ok_linesOf (P := P) (w := w) (base := base) d12 tTxtR tTxtL
  have g_partsOf := ok_partsOf (P := P) (w := w) (base := base) d13 tTxtR
  have g_numberIn := ok_numberIn (P := P) (w := w) (base := base) d14 tTxtR tTxtL
  have g_isFilled := ok_isFilled (P := P) (w := w) (base := base) d15 tTxtR d2 g_allMay
  have g_wordIn := ok_wordIn (P := P) (w := w) (base := base) d16 tTxtR tTxtL d9 g_decoded d13 g_partsOf d15 g_isFilled d14 g_numberIn wc
  have g_faultKind := ok_faultKind (P := P) (w := w) (base := base) d17 tTxtR tTxtL d4 g_isWord d5 g_isSame
  have g_digitsOf := ok_digitsOf (P := P) (w := w) (base := base) d18 tTxtL
  have g_lineOf := ok_lineOf (P := P) (w := w) (base := base) d19 tTxtR tTxtL d11 g_encoded d18 g_digitsOf
  have g_textOf := ok_textOf (P := P) (w := w) (base := base) d20 d19 g_lineOf
  have g_allChar := ok_allChar (P := P) (w := w) (base := base) d24 tTxtR d0 g_isChar
  have g_like := ok_like (P := P) (w := w) (base := base) d25 tTxtR
  have g_hasBeg := ok_hasBeg (P := P) (w := w) (base := base) d26 tTxtR
  have g_countBefore := ok_countBefore (P := P) (w := w) (base := base) d27 tTxtR
  have g_countReading := ok_countReading (P := P) (w := w) (base := base) d28 tTxtR
  have g_nums := ok_nums (P := P) (w := w) (base := base) d29 tTxtR (PySem.W.mg_none_of X G z_enumerate) d26 g_hasBeg
  have g_likeNums := ok_likeNums (P := P) (w := w) (base := base) d30 rfl TB (PySem.W.mg_none_of X G z_sorted) d29 g_nums d25 g_like
  have g_lens := ok_lens (P := P) (w := w) (base := base) d31 tTxtR (PySem.W.mg_none_of X G z_enumerate) d26 g_hasBeg
  have g_refusal := ok_refusal (P := P) (w := w) (base := base) d32 tTxtR tTxtX tTxtY d24 g_allChar
  have g_lInit := ok_lInit (P := P) (w := w) (base := base) F37 tTxtX
  have g_keep := ok_keep (P := P) (w := w) (base := base) F38 tTxtX
  have g_begin := ok_begin (CW := CW) (P := P) (w := w) (base := base) F39 tTxtX m38 g_keep
  have g_read := ok_read (P := P) (w := w) (base := base) F40 tTxtX d12 g_linesOf d16 g_wordIn d17 g_faultKind d6 g_orderOf m38 g_keep
  have g_write := ok_write (P := P) (w := w) (base := base) F41 tTxtX d20 g_textOf
  have g_count := ok_count (CW := CW) (P := P) (w := w) (base := base) F42 tTxtX
  have g_put := ok_put (P := P) (w := w) (base := base) F43 tTxtX d4 g_isWord d5 g_isSame d6 g_orderOf m38 g_keep
  have g_drop := ok_drop (CW := CW) (P := P) (w := w) (base := base) F44 tTxtX m38 g_keep
  have g_get := ok_get (P := P) (w := w) (base := base) F45 tTxtR tTxtX
  have g_number := ok_number (P := P) (w := w) (base := base) F46 tTxtR tTxtX tTxtY d32 g_refusal
  have g_find := ok_find (P := P) (w := w) (base := base) F47 tTxtX tTxtY d32 g_refusal d28 g_countReading d27 g_countBefore
  have g_begins := ok_begins (P := P) (w := w) (base := base) F48 tTxtX tTxtY d32 g_refusal d31 g_lens
  have g_goes := ok_goes (P := P) (w := w) (base := base) F49 tTxtX tTxtY d32 g_refusal d29 g_nums d27 g_countBefore
  have g_likely := ok_likely (P := P) (w := w) (base := base) F50 tTxtX tTxtY d32 g_refusal d30 g_likeNums
  have g_gInit := ok_gInit (P := P) (w := w) (base := base) F51 tTxtG
  have g_hasMore := ok_hasMore (P := P) (w := w) (base := base) F52 tTxtG
  have g_takeN := ok_takeN (P := P) (w := w) (base := base) F53 tTxtG
  have g_takeRow := ok_takeRow (P := P) (w := w) (base := base) F54 tTxtG m53 g_takeN
  have g_takeWord := ok_takeWord (P := P) (w := w) (base := base) d21 tTxtR tTxtG m53 g_takeN m54 g_takeRow wc
  have g_numberAns := ok_numberAns (tP := tP) (P := P) (w := w) (base := base) d33 tTxtG tTxtX m54 g_takeRow m46 g_number
  have g_likelyAns := ok_likelyAns (P := P) (w := w) (base := base) d34 tTxtG tTxtX m53 g_takeN m54 g_takeRow m50 g_likely
  have g_asked := ok_asked (P := P) (w := w) (base := base) d35 tTxtB tTxtG tTxtX m53 g_takeN m54 g_takeRow m45 g_get d33 g_numberAns m47 g_find m48 g_begins m49 g_goes d34 g_likelyAns
  have g_answerOf := ok_answerOf (P := P) (w := w) (base := base) d22 tTxtA tTxtG tTxtX m53 g_takeN m54 g_takeRow d21 g_takeWord m39 g_begin m40 g_read m41 g_write m42 g_count m43 g_put m44 g_drop d35 g_asked
  exact ok_answers d23 tTxtG tTxtX ⟨mkCG, a51, i51, kcCG⟩ m51.b g_gInit ⟨mkCL, a37, i37, kcCL⟩ m37.b g_lInit m52 g_hasMore d22 g_answerOf
end So
open PySem PySem.W PyProof.Rows
set_option maxRecDepth 100000 in
set_option maxHeartbeats 0 in
theorem PySem.Challenge.cw_soundlex_s01_answers_holds : PySem.Challenge.rw_soundlex_s01_answers.Holds := by
  w_on; k_headS; (case hw => exact ⟨[.list []], by decide +kernel, by decide +kernel⟩)
  k_fillS
  refine So.walk_tab (r := PySem.Challenge.rw_soundlex_s01_answers) (k := 10) (ps := ["calls"]) (sp := So.spAnswers) (maker := "numbers_by_likelihood") (by decide +kernel) rfl rfl ⟨rfl, by decide, by decide⟩ (fun w h Y => PySem.W.kIn_of Y) (by decide +kernel) ?F ?S
  case F =>
    intro w mg fa h Y KX G hmg
    refine' So.all_mk KX G hmg ?a0 ?l0 ?c0 ?k0 ?a1 ?l1 ?c1 ?k1 ?a2 ?l2 ?c2 ?k2 ?a3 ?l3 ?c3 ?k3 ?a4 ?l4 ?c4 ?k4 ?a5 ?l5 ?c5 ?k5 ?a6 ?l6 ?c6 ?k6 ?a7 ?l7 ?c7 ?k7 ?a8 ?l8 ?c8 ?k8 ?a9 ?l9 ?c9 ?k9 ?a10 ?l10 ?c10 ?k10 ?a11 ?l11 ?c11 ?k11 ?a12 ?l12 ?c12 ?k12 ?a13 ?l13 ?c13 ?k13 ?a14 ?l14 ?c14 ?k14 ?a15 ?l15 ?c15 ?k15 ?a16 ?l16 ?c16 ?k16 ?a17 ?l17 ?c17 ?k17 ?a18 ?l18 ?c18 ?k18 ?a19 ?l19 ?c19 ?k19 ?a20 ?l20 ?c20 ?k20 ?a21 ?l21 ?c21 ?k21 ?a22 ?l22 ?c22 ?k22 ?a23 ?l23 ?c23 ?k23 ?a24 ?l24 ?c24 ?k24 ?a25 ?l25 ?c25 ?k25 ?a26 ?l26 ?c26 ?k26 ?a27 ?l27 ?c27 ?k27 ?a28 ?l28 ?c28 ?k28 ?a29 ?l29 ?c29 ?k29 ?a30 ?l30 ?c30 ?k30 ?a31 ?l31 ?c31 ?k31 ?a32 ?l32 ?c32 ?k32 ?a33 ?l33 ?c33 ?k33 ?a34 ?l34 ?c34 ?k34 ?a35 ?l35 ?c35 ?k35 ?q_tab ?q_at ?q_no ?aCW ?aCL ?aCG ?a36 ?i36 ?l36 ?c36 ?k36 ?a37 ?i37 ?l37 ?c37 ?k37 ?a38 ?i38 ?l38 ?c38 ?k38 ?a39 ?i39 ?l39 ?c39 ?k39 ?a40 ?i40 ?l40 ?c40 ?k40 ?a41 ?i41 ?l41 ?c41 ?k41 ?a42 ?i42 ?l42 ?c42 ?k42 ?a43 ?i43 ?l43 ?c43 ?k43 ?a44 ?i44 ?l44 ?c44 ?k44 ?a45 ?i45 ?l45 ?c45 ?k45 ?a46 ?i46 ?l46 ?c46 ?k46 ?a47 ?i47 ?l47 ?c47 ?k47 ?a48 ?i48 ?l48 ?c48 ?k48 ?a49 ?i49 ?l49 ?c49 ?k49 ?a50 ?i50 ?l50 ?c50 ?k50 ?a51 ?i51 ?l51 ?c51 ?k51 ?a52 ?i52 ?l52 ?c52 ?k52 ?a53 ?i53 ?l53 ?c53 ?k53 ?a54 ?i54 ?l54 ?c54 ?k54 ?pgCW ?hdCW ?poCW ?saCW ?mkCW ?kcCW ?nCW_reading ?nCW_text ?nCW_left ?nCW_right ?nCW_cost ?pgCL ?hdCL ?poCL ?saCL ?mkCL ?kcCL ?nCL_words ?nCL_written ?pgCG ?hdCG ?poCG ?saCG ?mkCG ?kcCG ?nCG_numbers ?nCG_place ?z_FIRST_SURROGATE ?z_LAST_SURROGATE ?z_CHARACTERS_END ?z_BLANK ?z_DELETE ?z_MOST_CHARACTERS ?z_MOST_SORT ?z_MOST_COST ?z_MOST_WORDS ?z_LINE_END ?z_DIGIT_0 ?z_DIGIT_9 ?z_PARTS ?z_TOO_LARGE ?z_NO_FAULT ?z_NO_LINE ?z_BEYOND_LIMITS ?z_SAME_AS_BEFORE ?z_TOO_MANY ?z_MOST_BYTES ?z_TOO_LONG ?z_FAULTY ?z_NO_WORD ?z_NO_SUCH_NUMBER ?z_FULL ?z_BEGIN ?z_READ ?z_WRITE ?z_COUNT ?z_PUT ?z_DROP ?z_MOST_ASKED ?z_NO_REFUSAL ?z_NO_CHARACTER ?z_NONE_FOUND ?z_GET ?z_NUMBER ?z_FIND ?z_BEGINS ?z_GOES ?z_LIKELY ?z_LL ?l_LL ?h_LL ?z_len ?z_all ?z_any ?z_min ?z_ord ?z_str ?z_enumerate ?z_sorted
    (case a0 => k_is)
    (case l0 => k_is)
    (case c0 => k_is)
    (case k0 => k_is)
    (case a1 => k_is)
    (case l1 => k_is)
    (case c1 => k_is)
    (case k1 => k_is)
    (case a2 => k_is)
    (case l2 => k_is)
    (case c2 => k_is)
    (case k2 => k_is)
    (case a3 => k_is)
    (case l3 => k_is)
    (case c3 => k_is)
    (case k3 => k_is)
    (case a4 => k_is)
    (case l4 => k_is)
    (case c4 => k_is)
    (case k4 => k_is)
    (case a5 => k_is)
    (case l5 => k_is)
    (case c5 => k_is)
    (case k5 => k_is)
    (case a6 => k_is)
    (case l6 => k_is)
    (case c6 => k_is)
    (case k6 => k_is)
    (case a7 => k_is)
    (case l7 => k_is)
    (case c7 => k_is)
    (case k7 => k_is)
    (case a8 => k_is)
    (case l8 => k_is)
    (case c8 => k_is)
    (case k8 => k_is)
    (case a9 => k_is)
    (case l9 => k_is)
    (case c9 => k_is)
    (case k9 => k_is)
    (case a10 => k_is)
    (case l10 => k_is)
    (case c10 => k_is)
    (case k10 => k_is)
    (case a11 => k_is)
    (case l11 => k_is)
    (case c11 => k_is)
    (case k11 => k_is)
    (case a12 => k_is)
    (case l12 => k_is)
    (case c12 => k_is)
    (case k12 => k_is)
    (case a13 => k_is)
    (case l13 => k_is)
    (case c13 => k_is)
    (case k13 => k_is)
    (case a14 => k_is)
    (case l14 => k_is)
    (case c14 => k_is)
    (case k14 => k_is)
    (case a15 => k_is)
    (case l15 => k_is)
    (case c15 => k_is)
    (case k15 => k_is)
    (case a16 => k_is)
    (case l16 => k_is)
    (case c16 => k_is)
    (case k16 => k_is)
    (case a17 => k_is)
    (case l17 => k_is)
    (case c17 => k_is)
    (case k17 => k_is)
    (case a18 => k_is)
    (case l18 => k_is)
    (case c18 => k_is)
    (case k18 => k_is)
    (case a19 => k_is)
    (case l19 => k_is)
    (case c19 => k_is)
    (case k19 => k_is)
    (case a20 => k_is)
    (case l20 => k_is)
    (case c20 => k_is)
    (case k20 => k_is)
    (case a21 => k_is)
    (case l21 => k_is)
    (case c21 => k_is)
    (case k21 => k_is)
    (case a22 => k_is)
    (case l22 => k_is)
    (case c22 => k_is)
    (case k22 => k_is)
    (case a23 => k_is)
    (case l23 => k_is)
    (case c23 => k_is)
    (case k23 => k_is)
    (case a24 => k_is)
    (case l24 => k_is)
    (case c24 => k_is)
    (case k24 => k_is)
    (case a25 => k_is)
    (case l25 => k_is)
    (case c25 => k_is)
    (case k25 => k_is)
    (case a26 => k_is)
    (case l26 => k_is)
    (case c26 => k_is)
    (case k26 => k_is)
    (case a27 => k_is)
    (case l27 => k_is)
    (case c27 => k_is)
    (case k27 => k_is)
    (case a28 => k_is)
    (case l28 => k_is)
    (case c28 => k_is)
    (case k28 => k_is)
    (case a29 => k_is)
    (case l29 => k_is)
    (case c29 => k_is)
    (case k29 => k_is)
    (case a30 => k_is)
    (case l30 => k_is)
    (case c30 => k_is)
    (case k30 => k_is)
    (case a31 => k_is)
    (case l31 => k_is)
    (case c31 => k_is)
    (case k31 => k_is)
    (case a32 => k_is)
    (case l32 => k_is)
    (case c32 => k_is)
    (case k32 => k_is)
    (case a33 => k_is)
    (case l33 => k_is)
    (case c33 => k_is)
    (case k33 => k_is)
    (case a34 => k_is)
    (case l34 => k_is)
    (case c34 => k_is)
    (case k34 => k_is)
    (case a35 => k_is)
    (case l35 => k_is)
    (case c35 => k_is)
    (case k35 => k_is)
    (case q_tab => k_is)
    (case q_at => rfl)
    (case q_no => kernel_rfl)
    (case aCW => k_is)
    (case aCL => k_is)
    (case aCG => k_is)
    (case a36 => k_is)
    (case i36 => k_is)
    (case l36 => k_is)
    (case c36 => k_is)
    (case k36 => k_is)
    (case a37 => k_is)
    (case i37 => k_is)
    (case l37 => k_is)
    (case c37 => k_is)
    (case k37 => k_is)
    (case a38 => k_is)
    (case i38 => k_is)
    (case l38 => k_is)
    (case c38 => k_is)
    (case k38 => k_is)
    (case a39 => k_is)
    (case i39 => k_is)
    (case l39 => k_is)
    (case c39 => k_is)
    (case k39 => k_is)
    (case a40 => k_is)
    (case i40 => k_is)
    (case l40 => k_is)
    (case c40 => k_is)
    (case k40 => k_is)
    (case a41 => k_is)
    (case i41 => k_is)
    (case l41 => k_is)
    (case c41 => k_is)
    (case k41 => k_is)
    (case a42 => k_is)
    (case i42 => k_is)
    (case l42 => k_is)
    (case c42 => k_is)
    (case k42 => k_is)
    (case a43 => k_is)
    (case i43 => k_is)
    (case l43 => k_is)
    (case c43 => k_is)
    (case k43 => k_is)
    (case a44 => k_is)
    (case i44 => k_is)
    (case l44 => k_is)
    (case c44 => k_is)
    (case k44 => k_is)
    (case a45 => k_is)
    (case i45 => k_is)
    (case l45 => k_is)
    (case c45 => k_is)
    (case k45 => k_is)
    (case a46 => k_is)
    (case i46 => k_is)
    (case l46 => k_is)
    (case c46 => k_is)
    (case k46 => k_is)
    (case a47 => k_is)
    (case i47 => k_is)
    (case l47 => k_is)
    (case c47 => k_is)
    (case k47 => k_is)
    (case a48 => k_is)
    (case i48 => k_is)
    (case l48 => k_is)
    (case c48 => k_is)
    (case k48 => k_is)
    (case a49 => k_is)
    (case i49 => k_is)
    (case l49 => k_is)
    (case c49 => k_is)
    (case k49 => k_is)
    (case a50 => k_is)
    (case i50 => k_is)
    (case l50 => k_is)
    (case c50 => k_is)
    (case k50 => k_is)
    (case a51 => k_is)
    (case i51 => k_is)
    (case l51 => k_is)
    (case c51 => k_is)
    (case k51 => k_is)
    (case a52 => k_is)
    (case i52 => k_is)
    (case l52 => k_is)
    (case c52 => k_is)
    (case k52 => k_is)
    (case a53 => k_is)
    (case i53 => k_is)
    (case l53 => k_is)
    (case c53 => k_is)
    (case k53 => k_is)
    (case a54 => k_is)
    (case i54 => k_is)
    (case l54 => k_is)
    (case c54 => k_is)
    (case k54 => k_is)
    (case pgCW => k_is)
    (case hdCW => k_is)
    (case poCW => k_is)
    (case saCW => k_is)
    (case mkCW => k_is)
    (case kcCW => k_is)
    (case nCW_reading => k_is)
    (case nCW_text => k_is)
    (case nCW_left => k_is)
    (case nCW_right => k_is)
    (case nCW_cost => k_is)
    (case pgCL => k_is)
    (case hdCL => k_is)
    (case poCL => k_is)
    (case saCL => k_is)
    (case mkCL => k_is)
    (case kcCL => k_is)
    (case nCL_words => k_is)
    (case nCL_written => k_is)
    (case pgCG => k_is)
    (case hdCG => k_is)
    (case poCG => k_is)
    (case saCG => k_is)
    (case mkCG => k_is)
    (case kcCG => k_is)
    (case nCG_numbers => k_is)
    (case nCG_place => k_is)
    (case z_FIRST_SURROGATE => k_is)
    (case z_LAST_SURROGATE => k_is)
    (case z_CHARACTERS_END => k_is)
    (case z_BLANK => k_is)
    (case z_DELETE => k_is)
    (case z_MOST_CHARACTERS => k_is)
    (case z_MOST_SORT => k_is)
    (case z_MOST_COST => k_is)
    (case z_MOST_WORDS => k_is)
    (case z_LINE_END => k_is)
    (case z_DIGIT_0 => k_is)
    (case z_DIGIT_9 => k_is)
    (case z_PARTS => k_is)
    (case z_TOO_LARGE => k_is)
    (case z_NO_FAULT => k_is)
    (case z_NO_LINE => k_is)
    (case z_BEYOND_LIMITS => k_is)
    (case z_SAME_AS_BEFORE => k_is)
    (case z_TOO_MANY => k_is)
    (case z_MOST_BYTES => k_is)
    (case z_TOO_LONG => k_is)
    (case z_FAULTY => k_is)
    (case z_NO_WORD => k_is)
    (case z_NO_SUCH_NUMBER => k_is)
    (case z_FULL => k_is)
    (case z_BEGIN => k_is)
    (case z_READ => k_is)
    (case z_WRITE => k_is)
    (case z_COUNT => k_is)
    (case z_PUT => k_is)
    (case z_DROP => k_is)
    (case z_MOST_ASKED => k_is)
    (case z_NO_REFUSAL => k_is)
    (case z_NO_CHARACTER => k_is)
    (case z_NONE_FOUND => k_is)
    (case z_GET => k_is)
    (case z_NUMBER => k_is)
    (case z_FIND => k_is)
    (case z_BEGINS => k_is)
    (case z_GOES => k_is)
    (case z_LIKELY => k_is)
    (case z_LL => k_is)
    (case l_LL => k_is)
    (case h_LL => exact ⟨by decide, .cons ⟨_, rfl⟩ (.cons ⟨_, rfl⟩ (.cons ⟨_, rfl⟩ (.cons ⟨_, rfl⟩ (.cons ⟨_, rfl⟩ .nil))))⟩)
    (case z_len => k_is)
    (case z_all => k_is)
    (case z_any => k_is)
    (case z_min => k_is)
    (case z_ord => k_is)
    (case z_str => k_is)
    (case z_enumerate => k_is)
    (case z_sorted => k_is)
  case S =>
    intro K H0 H xs tP a hwi hask hx hext hT
    cases hx with
    | cons h1 h2 =>
      cases h2
      cases h1 with
      | lst hs ha =>
        have e := L2.ints_dw a.1 _ ha
        subst e
        have q : ((Codec.inLen 0 47000 a.1 && a.1.all (Codec.inInt 0 2097151)) && true) = true := hwi
        have q2 : PyWqaibk.answers_asked a.1 = true := hask
        rw [Bool.and_eq_true, Bool.and_eq_true] at q
        have q3 : So.zi (a.1.map Int.toNat) = a.1 := So.zi_back (fun z hz => So.int_ge (List.all_eq_true.mp q.1.2 z hz))
        refine ⟨_, a.1.map Int.toNat, rfl, ?_, ?_, ?_, LamX.TabS.nil hT, fun H' p hp => ?_⟩
        · rw [So.nv_zi, q3]
          exact Evl.ex_l hext hs
        · rw [List.length_map]
          exact (Codec.inNat_iff.mp q.1.1).2
        · rw [q3]
          exact q2
        · rw [q3] at hp
          exact .lst (L2.SqL.of hp) (L2.dw_ints _)
#print axioms PySem.Challenge.cw_soundlex_s01_answers_holds
