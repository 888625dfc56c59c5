/- Frames as data, and their encodings. Nothing is said of the program here. -/
import Derived.Test.YtmgnmkdjphnaoaaBackMath
import Derived.Test.YtmgnmkdjphnaoaaCGood
namespace Go.Proofs.Ytmgnmkdjphnaoaa
open Go Go.RowKit

theorem nil_add (s : ByteArray) : (⟨#[]⟩ : ByteArray) ++ s = s := by
  apply bytes_ext
  simp [ByteArray.data_append]
theorem add_nil (s : ByteArray) : s ++ (⟨#[]⟩ : ByteArray) = s := by
  apply bytes_ext
  simp [ByteArray.data_append]

structure Frm where
  dst : Int
  src : Int
  tag : Bool
  prio : Int
  vid : Int
  sq : Bool
  seq : Int
  ty : Int
  data : ByteArray

def upB (m n : Int) : Bool := decide (0 ≤ n ∧ n ≤ m)
def only (b : Bool) (n : Int) : Int := if b then n else 0
def tyB (n : Int) : Bool := decide (n = 0 ∨ (1536 ≤ n ∧ n ≤ 65535 ∧ n ≠ 33024 ∧ n ≠ 61889))
def adB (d s : Int) : Bool := decide ((0 ≤ d ∧ d ≤ 281474976710655) ∧ (0 ≤ s ∧ s ≤ 281474976710655))
def tgB (t : Bool) (p v : Int) (q : Bool) (n : Int) : Bool := decide ((0 ≤ p ∧ p ≤ only t 7) ∧ (0 ≤ v ∧ v ≤ only t 4094) ∧ (0 ≤ n ∧ n ≤ only q 65535))
def szB (q : Bool) (n : Int) : Bool := decide (n ≤ 1500 - only q 6)
def Frm.ok (f : Frm) : Bool := adB f.dst f.src && tgB f.tag f.prio f.vid f.sq f.seq && tyB f.ty && szB f.sq f.data.size
/-- What Check returns. -/
def Frm.err (f : Frm) : Int := if f.ok then 0 else 170

/-- The header: what comes before Data. -/
def hdA (d s : Int) : ByteArray := encS d 6 ++ encS s 6
def hdT (t : Bool) (p v : Int) : ByteArray := if t then encS 33024 2 ++ encS (p * 8192 + v) 2 else ⟨#[]⟩
def hdQ (q : Bool) (n : Int) : ByteArray := if q then encS 61889 2 ++ encS 0 2 ++ encS n 2 else ⟨#[]⟩
def hdK (y : Int) (n : Int) : ByteArray := encS (if y = 0 then n else y) 2
def Frm.hd (f : Frm) : ByteArray := hdA f.dst f.src ++ hdT f.tag f.prio f.vid ++ hdQ f.sq f.seq ++ hdK f.ty f.data.size
def zeros (n : Nat) : ByteArray := ⟨(List.replicate n 0).toArray⟩
def pad (s : ByteArray) : ByteArray := s ++ zeros (60 - s.size)
def Frm.enc (f : Frm) : ByteArray := sealG (pad (f.hd ++ f.data)) 0#32
/-- What Encode returns. -/
def Frm.str (f : Frm) : ByteArray := if f.ok then f.enc else ⟨#[]⟩
def Frm.wire (f : Frm) : Int := if f.ok then f.enc.size + 20 else 0

theorem zeros_size (n) : (zeros n).size = n := by simp [zeros, ByteArray.size]
theorem zeros_succ (n) : zeros n ++ ⟨#[0]⟩ = zeros (n + 1) := by
  unfold zeros
  rw [ByteArray.mk_append_mk]
  congr 1
  apply Array.ext'
  simp [List.replicate_succ']
theorem zeros_add (m n) : zeros m ++ zeros n = zeros (m + n) := by
  unfold zeros
  rw [ByteArray.mk_append_mk]
  congr 1
  apply Array.ext'
  simp [List.replicate_append_replicate]
theorem hdT_size (t p v) : (hdT t p v).size = if t then 4 else 0 := by cases t <;> simp [hdT, ByteArray.size_append, encS_size] <;> rfl
theorem hdQ_size (q n) : (hdQ q n).size = if q then 6 else 0 := by cases q <;> simp [hdQ, ByteArray.size_append, encS_size] <;> rfl
theorem hd_size (f : Frm) : f.hd.size = 14 + (if f.tag then 4 else 0) + (if f.sq then 6 else 0) := by
  unfold Frm.hd hdA hdK
  simp only [ByteArray.size_append, encS_size, hdT_size, hdQ_size]
  omega
theorem hd_le (f : Frm) : 14 ≤ f.hd.size ∧ f.hd.size ≤ 24 := by
  rw [hd_size]; split <;> split <;> omega
theorem pad_size (s : ByteArray) : (pad s).size = max s.size 60 := by
  unfold pad
  rw [ByteArray.size_append, zeros_size]
  omega
theorem ok_iff (f : Frm) : f.ok = true ↔ ((0 ≤ f.dst ∧ f.dst ≤ 281474976710655) ∧ (0 ≤ f.src ∧ f.src ≤ 281474976710655)) ∧ ((0 ≤ f.prio ∧ f.prio ≤ only f.tag 7) ∧ (0 ≤ f.vid ∧ f.vid ≤ only f.tag 4094) ∧ (0 ≤ f.seq ∧ f.seq ≤ only f.sq 65535)) ∧ (f.ty = 0 ∨ (1536 ≤ f.ty ∧ f.ty ≤ 65535 ∧ f.ty ≠ 33024 ∧ f.ty ≠ 61889)) ∧ (f.data.size : Int) ≤ 1500 - only f.sq 6 := by
  unfold Frm.ok adB tgB tyB szB
  simp only [Bool.and_eq_true, decide_eq_true_eq, and_assoc]
theorem ok_data (f : Frm) (h : f.ok = true) : f.data.size ≤ 1500 := by
  have := ((ok_iff f).1 h).2.2.2
  unfold only at this
  split at this <;> omega
theorem enc_sz (f : Frm) : f.enc.size = max (f.hd.size + f.data.size) 60 + 4 := by
  unfold Frm.enc
  rw [sealG_size, pad_size, ByteArray.size_append]
end Go.Proofs.Ytmgnmkdjphnaoaa
